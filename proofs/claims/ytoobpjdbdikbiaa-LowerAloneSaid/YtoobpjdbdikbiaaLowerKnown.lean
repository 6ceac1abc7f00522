/- Layer 13 (lower): the fixed call. -/
import Derived.Test.YtoobpjdbdikbiaaLowerWk
import Derived.Test.YtoobpjdbdikbiaaNodeCopy
import Derived.Deep.CutRange
namespace Go.Proofs.Ytoobpjdbdikbiaa.CLower
open Go Go.ChangeShapes Go.WideShapes Go.ChangeAt Go.RowKit
open Plain CSat CShape CTensor CConv
set_option linter.unusedVariables false

theorem mk8 (w : World) : (Instr.makeSlice 24 (.int .i64 90) (.int .i64 90)).run Try.prog w = .ok (.slice (some ⟨w.heap.size, 0, none⟩) 90 90) (w.alloc (.cells (List.replicate 90 (.int .i8 0)).toArray 27)) := by kernel_rfl
theorem mk32 (w : World) : (Instr.makeSlice 28 (.int .i64 5) (.int .i64 5)).run Try.prog w = .ok (.slice (some ⟨w.heap.size, 0, none⟩) 5 5) (w.alloc (.cells (List.replicate 5 (.int .i32 0)).toArray 21)) := by kernel_rfl
set_option maxRecDepth 100000 in
set_option maxHeartbeats 4000000 in
theorem known13 (w : World) : Calls Try.prog 11 #[] w fun e w' => e = .returned (.bool true) ∧ Below w.heap.size w w' := by
  have hm8 := mk8
  have hm32 := mk32
  have K13 : Hid (convE 4 4 2 3 1 1 5 90 5 = 0) := Lib.hid (by decide)
  have K14 : Hid (elemsZ (stepsM 4 3 1 1) (stepsM 4 3 1 1) 5 * 3 * 3 * 2 = 1440) := Lib.hid (by decide)
  go_enter Try.func11, Try.ntmps11
  go_wp2_with fail
  go_cut [1] from 2 to 5 (fun s1 wx => ∃ (g : Nat) (x0 x1 x2 x8 x11 x12 x13 x14 x15 x16 x17 x18 : Value) (WA BA : Option Addr), s1 = .pointer (some ⟨g, 0, none⟩) ∧ NodeAt g x0 x1 x2 x8 x11 x12 x13 x14 x15 x16 x17 x18 3 1 1 5 0 WA BA 90 90 5 5 wx ∧ Below w.heap.size w wx)
  case first =>
    refine wp_region_held_drew (S := fun _ => True) (by kernel_rfl) trivial (fun hHeld => ?_)
    refine wpAnyH_ready (rs := [0, 1, 3]) (by kernel_rfl) (by simp) ?_
    refine AllReadyH.cons (o := ({ dst := some 2, op := Op.makeSlice 24 (Operand.const (Value.int IntKind.i64 90)) (Operand.const (Value.int IntKind.i64 90)), type := 24, pos := "law.go:13", after := #[], guard := none } : Oper)) rfl (fun K hK => ?_) ?_
    · go_simp
      refine hK.out _ _ ?_ (fun hHeld => ?_)
      · trivial
      clear hK K
      try simp only [Act.put, List.setIfInBounds_toArray, List.set_cons_zero, List.set_cons_succ]
      refine wpAnyH_ready (rs := [1, 3]) (by kernel_rfl) (by simp) ?_
      refine AllReadyH.cons (o := ({ dst := some 3, op := Op.makeSlice 28 (Operand.const (Value.int IntKind.i64 5)) (Operand.const (Value.int IntKind.i64 5)), type := 28, pos := "law.go:13", after := #[], guard := none } : Oper)) rfl (fun K hK => ?_) ?_
      · go_simp
        refine hK.out _ _ ?_ (fun hHeld => ?_)
        · trivial
        clear hK K
        try simp only [Act.put, List.setIfInBounds_toArray, List.set_cons_zero, List.set_cons_succ]
        refine wpAnyH_take (i := 2) (oi := ({ dst := some 4, op := Op.build 32 #[(3, Operand.const (Value.int IntKind.i64 3)), (4, Operand.const (Value.int IntKind.i64 1)), (5, Operand.const (Value.int IntKind.i64 1)), (6, Operand.const (Value.int IntKind.i64 5)), (9, Operand.tmp 2), (10, Operand.tmp 3)], type := 32, pos := "law.go:13", after := #[{ on := 0, ground := Ground.data }, { on := 1, ground := Ground.data }], guard := none } : Oper)) (v := ?_) rfl (by kernel_rfl) (by kernel_rfl) (by kernel_rfl) (fun _ _ _ h => h) (Or.inl ⟨by rfl, ?_⟩) (by assumption) ?_
        rotate_left
        · intro wS hSw
          first
            | (go_simp; done)
            | (go_simp; with_reducible rfl)
        try simp only [Act.put, List.setIfInBounds_toArray, List.set_cons_zero, List.set_cons_succ]
        refine wpAnyH_ready (rs := [3]) (by kernel_rfl) (by simp) ?_
        refine AllReadyH.cons (o := ({ dst := some 1, op := Op.alloc 32, type := 0, pos := "law.go:13", after := #[], guard := none } : Oper)) rfl (fun K hK => ?_) ?_
        · go_simp
          refine hK.out _ _ ?_ (fun hHeld => ?_)
          · trivial
          clear hK K
          try simp only [Act.put, List.setIfInBounds_toArray, List.set_cons_zero, List.set_cons_succ]
          have HTH : Hid ((((w.drew.alloc (.cells (List.replicate 90 (.int .i8 0)).toArray 27)).alloc (.cells (List.replicate 5 (.int .i32 0)).toArray 21)).alloc (.cells #[.int .i64 0, .int .i64 0, .int .i64 0, .int .i64 0, .int .i64 0, .int .i64 0, .int .i64 0, .int .i8 0, .int .i8 0, .slice none 0 0, .slice none 0 0, .int .i32 0, .int .i64 0, .int .i8 0, .int .i32 0, .int .i64 0, .int .i8 0, .int .i8 0, .int .i8 0] 32)).there (w.heap.size + 1 + 1) 0 19) := by
            have h := Kit.there_new (((w.drew.alloc (.cells (List.replicate 90 (.int .i8 0)).toArray 27)).alloc (.cells (List.replicate 5 (.int .i32 0)).toArray 21))) (cs := #[.int .i64 0, .int .i64 0, .int .i64 0, .int .i64 0, .int .i64 0, .int .i64 0, .int .i64 0, .int .i8 0, .int .i8 0, .slice none 0 0, .slice none 0 0, .int .i32 0, .int .i64 0, .int .i8 0, .int .i32 0, .int .i64 0, .int .i8 0, .int .i8 0, .int .i8 0]) 32 (n := 19) rfl
            try simp only [World.size_alloc] at h
            exact Lib.hid h
          refine wpAnyH_ready (rs := [4]) (by kernel_rfl) (by simp) ?_
          refine AllReadyH.cons (o := ({ dst := none, op := Op.store 32 (Operand.tmp 1) (Operand.tmp 4), type := 0, pos := "law.go:13", after := #[{ on := 3, ground := Ground.data }, { on := 2, ground := Ground.data }, { on := 0, ground := Ground.phase }, { on := 1, ground := Ground.phase }, { on := 2, ground := Ground.phase }, { on := 3, ground := Ground.phase }], guard := none } : Oper)) rfl (fun K hK => ?_) (AllReadyH.nil)
          refine Eq.mpr (if_pos (by kernel_rfl)) ?_
          refine wp_store_mid 32 _ _ rfl (w.heap.size + 1 + 1) 0 _ rfl rfl HTH.out (by kernel_rfl) (by kernel_rfl) ?_
          refine hK.out _ _ ?_ (fun hHeld => ?_)
          · trivial
          clear hK K
          try simp only [Act.put]
          refine wpAnyH_done (by kernel_rfl) ?_ _
          go_wp2_with fail
          go_meet
          exact ⟨_, _, _, _, _, _, _, _, _, _, _, _, _, _, _, rfl, NodeAt.stored HTH.out _ _ _ _ _ _ _ _ _ _ _ _ _ _ _ _ _ _ _ _ _ _ _, Kit.below_cells (by first | exact Nat.le_refl _ | (simp; done) | omega) _ _ _ (by go_grown)⟩
        exact AllReadyH.nil
      refine AllReadyH.cons (o := ({ dst := some 1, op := Op.alloc 32, type := 0, pos := "law.go:13", after := #[], guard := none } : Oper)) rfl (fun K hK => ?_) ?_
      · go_simp
        refine hK.out _ _ ?_ (fun hHeld => ?_)
        · trivial
        clear hK K
        try simp only [Act.put, List.setIfInBounds_toArray, List.set_cons_zero, List.set_cons_succ]
        have HTH : Hid (((w.drew.alloc (.cells (List.replicate 90 (.int .i8 0)).toArray 27)).alloc (.cells #[.int .i64 0, .int .i64 0, .int .i64 0, .int .i64 0, .int .i64 0, .int .i64 0, .int .i64 0, .int .i8 0, .int .i8 0, .slice none 0 0, .slice none 0 0, .int .i32 0, .int .i64 0, .int .i8 0, .int .i32 0, .int .i64 0, .int .i8 0, .int .i8 0, .int .i8 0] 32)).there (w.heap.size + 1) 0 19) := by
          have h := Kit.there_new ((w.drew.alloc (.cells (List.replicate 90 (.int .i8 0)).toArray 27))) (cs := #[.int .i64 0, .int .i64 0, .int .i64 0, .int .i64 0, .int .i64 0, .int .i64 0, .int .i64 0, .int .i8 0, .int .i8 0, .slice none 0 0, .slice none 0 0, .int .i32 0, .int .i64 0, .int .i8 0, .int .i32 0, .int .i64 0, .int .i8 0, .int .i8 0, .int .i8 0]) 32 (n := 19) rfl
          try simp only [World.size_alloc] at h
          exact Lib.hid h
        refine wpAnyH_ready (rs := [1]) (by kernel_rfl) (by simp) ?_
        refine AllReadyH.cons (o := ({ dst := some 3, op := Op.makeSlice 28 (Operand.const (Value.int IntKind.i64 5)) (Operand.const (Value.int IntKind.i64 5)), type := 28, pos := "law.go:13", after := #[], guard := none } : Oper)) rfl (fun K hK => ?_) ?_
        · go_simp
          refine hK.out _ _ ?_ (fun hHeld => ?_)
          · trivial
          clear hK K
          try simp only [Act.put, List.setIfInBounds_toArray, List.set_cons_zero, List.set_cons_succ]
          replace HTH := Lib.hid (Kit.there_below HTH.out ((Below.refl _ _).alloc (Nat.le_refl _) (.cells (List.replicate 5 (.int .i32 0)).toArray 21)) (by first | (simp; done) | (simp; omega)))
          refine wpAnyH_take (i := 2) (oi := ({ dst := some 4, op := Op.build 32 #[(3, Operand.const (Value.int IntKind.i64 3)), (4, Operand.const (Value.int IntKind.i64 1)), (5, Operand.const (Value.int IntKind.i64 1)), (6, Operand.const (Value.int IntKind.i64 5)), (9, Operand.tmp 2), (10, Operand.tmp 3)], type := 32, pos := "law.go:13", after := #[{ on := 0, ground := Ground.data }, { on := 1, ground := Ground.data }], guard := none } : Oper)) (v := ?_) rfl (by kernel_rfl) (by kernel_rfl) (by kernel_rfl) (fun _ _ _ h => h) (Or.inl ⟨by rfl, ?_⟩) (by assumption) ?_
          rotate_left
          · intro wS hSw
            first
              | (go_simp; done)
              | (go_simp; with_reducible rfl)
          try simp only [Act.put, List.setIfInBounds_toArray, List.set_cons_zero, List.set_cons_succ]
          refine wpAnyH_ready (rs := [4]) (by kernel_rfl) (by simp) ?_
          refine AllReadyH.cons (o := ({ dst := none, op := Op.store 32 (Operand.tmp 1) (Operand.tmp 4), type := 0, pos := "law.go:13", after := #[{ on := 3, ground := Ground.data }, { on := 2, ground := Ground.data }, { on := 0, ground := Ground.phase }, { on := 1, ground := Ground.phase }, { on := 2, ground := Ground.phase }, { on := 3, ground := Ground.phase }], guard := none } : Oper)) rfl (fun K hK => ?_) (AllReadyH.nil)
          refine Eq.mpr (if_pos (by kernel_rfl)) ?_
          refine wp_store_mid 32 _ _ rfl (w.heap.size + 1) 0 _ rfl rfl HTH.out (by kernel_rfl) (by kernel_rfl) ?_
          refine hK.out _ _ ?_ (fun hHeld => ?_)
          · trivial
          clear hK K
          try simp only [Act.put]
          refine wpAnyH_done (by kernel_rfl) ?_ _
          go_wp2_with fail
          go_meet
          exact ⟨_, _, _, _, _, _, _, _, _, _, _, _, _, _, _, rfl, NodeAt.stored HTH.out _ _ _ _ _ _ _ _ _ _ _ _ _ _ _ _ _ _ _ _ _ _ _, Kit.below_cells (by first | exact Nat.le_refl _ | (simp; done) | omega) _ _ _ (by go_grown)⟩
        exact AllReadyH.nil
      exact AllReadyH.nil
    refine AllReadyH.cons (o := ({ dst := some 3, op := Op.makeSlice 28 (Operand.const (Value.int IntKind.i64 5)) (Operand.const (Value.int IntKind.i64 5)), type := 28, pos := "law.go:13", after := #[], guard := none } : Oper)) rfl (fun K hK => ?_) ?_
    · go_simp
      refine hK.out _ _ ?_ (fun hHeld => ?_)
      · trivial
      clear hK K
      try simp only [Act.put, List.setIfInBounds_toArray, List.set_cons_zero, List.set_cons_succ]
      refine wpAnyH_ready (rs := [0, 3]) (by kernel_rfl) (by simp) ?_
      refine AllReadyH.cons (o := ({ dst := some 2, op := Op.makeSlice 24 (Operand.const (Value.int IntKind.i64 90)) (Operand.const (Value.int IntKind.i64 90)), type := 24, pos := "law.go:13", after := #[], guard := none } : Oper)) rfl (fun K hK => ?_) ?_
      · go_simp
        refine hK.out _ _ ?_ (fun hHeld => ?_)
        · trivial
        clear hK K
        try simp only [Act.put, List.setIfInBounds_toArray, List.set_cons_zero, List.set_cons_succ]
        refine wpAnyH_take (i := 2) (oi := ({ dst := some 4, op := Op.build 32 #[(3, Operand.const (Value.int IntKind.i64 3)), (4, Operand.const (Value.int IntKind.i64 1)), (5, Operand.const (Value.int IntKind.i64 1)), (6, Operand.const (Value.int IntKind.i64 5)), (9, Operand.tmp 2), (10, Operand.tmp 3)], type := 32, pos := "law.go:13", after := #[{ on := 0, ground := Ground.data }, { on := 1, ground := Ground.data }], guard := none } : Oper)) (v := ?_) rfl (by kernel_rfl) (by kernel_rfl) (by kernel_rfl) (fun _ _ _ h => h) (Or.inl ⟨by rfl, ?_⟩) (by assumption) ?_
        rotate_left
        · intro wS hSw
          first
            | (go_simp; done)
            | (go_simp; with_reducible rfl)
        try simp only [Act.put, List.setIfInBounds_toArray, List.set_cons_zero, List.set_cons_succ]
        refine wpAnyH_ready (rs := [3]) (by kernel_rfl) (by simp) ?_
        refine AllReadyH.cons (o := ({ dst := some 1, op := Op.alloc 32, type := 0, pos := "law.go:13", after := #[], guard := none } : Oper)) rfl (fun K hK => ?_) ?_
        · go_simp
          refine hK.out _ _ ?_ (fun hHeld => ?_)
          · trivial
          clear hK K
          try simp only [Act.put, List.setIfInBounds_toArray, List.set_cons_zero, List.set_cons_succ]
          have HTH : Hid ((((w.drew.alloc (.cells (List.replicate 5 (.int .i32 0)).toArray 21)).alloc (.cells (List.replicate 90 (.int .i8 0)).toArray 27)).alloc (.cells #[.int .i64 0, .int .i64 0, .int .i64 0, .int .i64 0, .int .i64 0, .int .i64 0, .int .i64 0, .int .i8 0, .int .i8 0, .slice none 0 0, .slice none 0 0, .int .i32 0, .int .i64 0, .int .i8 0, .int .i32 0, .int .i64 0, .int .i8 0, .int .i8 0, .int .i8 0] 32)).there (w.heap.size + 1 + 1) 0 19) := by
            have h := Kit.there_new (((w.drew.alloc (.cells (List.replicate 5 (.int .i32 0)).toArray 21)).alloc (.cells (List.replicate 90 (.int .i8 0)).toArray 27))) (cs := #[.int .i64 0, .int .i64 0, .int .i64 0, .int .i64 0, .int .i64 0, .int .i64 0, .int .i64 0, .int .i8 0, .int .i8 0, .slice none 0 0, .slice none 0 0, .int .i32 0, .int .i64 0, .int .i8 0, .int .i32 0, .int .i64 0, .int .i8 0, .int .i8 0, .int .i8 0]) 32 (n := 19) rfl
            try simp only [World.size_alloc] at h
            exact Lib.hid h
          refine wpAnyH_ready (rs := [4]) (by kernel_rfl) (by simp) ?_
          refine AllReadyH.cons (o := ({ dst := none, op := Op.store 32 (Operand.tmp 1) (Operand.tmp 4), type := 0, pos := "law.go:13", after := #[{ on := 3, ground := Ground.data }, { on := 2, ground := Ground.data }, { on := 0, ground := Ground.phase }, { on := 1, ground := Ground.phase }, { on := 2, ground := Ground.phase }, { on := 3, ground := Ground.phase }], guard := none } : Oper)) rfl (fun K hK => ?_) (AllReadyH.nil)
          refine Eq.mpr (if_pos (by kernel_rfl)) ?_
          refine wp_store_mid 32 _ _ rfl (w.heap.size + 1 + 1) 0 _ rfl rfl HTH.out (by kernel_rfl) (by kernel_rfl) ?_
          refine hK.out _ _ ?_ (fun hHeld => ?_)
          · trivial
          clear hK K
          try simp only [Act.put]
          refine wpAnyH_done (by kernel_rfl) ?_ _
          go_wp2_with fail
          go_meet
          exact ⟨_, _, _, _, _, _, _, _, _, _, _, _, _, _, _, rfl, NodeAt.stored HTH.out _ _ _ _ _ _ _ _ _ _ _ _ _ _ _ _ _ _ _ _ _ _ _, Kit.below_cells (by first | exact Nat.le_refl _ | (simp; done) | omega) _ _ _ (by go_grown)⟩
        exact AllReadyH.nil
      refine AllReadyH.cons (o := ({ dst := some 1, op := Op.alloc 32, type := 0, pos := "law.go:13", after := #[], guard := none } : Oper)) rfl (fun K hK => ?_) ?_
      · go_simp
        refine hK.out _ _ ?_ (fun hHeld => ?_)
        · trivial
        clear hK K
        try simp only [Act.put, List.setIfInBounds_toArray, List.set_cons_zero, List.set_cons_succ]
        have HTH : Hid (((w.drew.alloc (.cells (List.replicate 5 (.int .i32 0)).toArray 21)).alloc (.cells #[.int .i64 0, .int .i64 0, .int .i64 0, .int .i64 0, .int .i64 0, .int .i64 0, .int .i64 0, .int .i8 0, .int .i8 0, .slice none 0 0, .slice none 0 0, .int .i32 0, .int .i64 0, .int .i8 0, .int .i32 0, .int .i64 0, .int .i8 0, .int .i8 0, .int .i8 0] 32)).there (w.heap.size + 1) 0 19) := by
          have h := Kit.there_new ((w.drew.alloc (.cells (List.replicate 5 (.int .i32 0)).toArray 21))) (cs := #[.int .i64 0, .int .i64 0, .int .i64 0, .int .i64 0, .int .i64 0, .int .i64 0, .int .i64 0, .int .i8 0, .int .i8 0, .slice none 0 0, .slice none 0 0, .int .i32 0, .int .i64 0, .int .i8 0, .int .i32 0, .int .i64 0, .int .i8 0, .int .i8 0, .int .i8 0]) 32 (n := 19) rfl
          try simp only [World.size_alloc] at h
          exact Lib.hid h
        refine wpAnyH_ready (rs := [0]) (by kernel_rfl) (by simp) ?_
        refine AllReadyH.cons (o := ({ dst := some 2, op := Op.makeSlice 24 (Operand.const (Value.int IntKind.i64 90)) (Operand.const (Value.int IntKind.i64 90)), type := 24, pos := "law.go:13", after := #[], guard := none } : Oper)) rfl (fun K hK => ?_) ?_
        · go_simp
          refine hK.out _ _ ?_ (fun hHeld => ?_)
          · trivial
          clear hK K
          try simp only [Act.put, List.setIfInBounds_toArray, List.set_cons_zero, List.set_cons_succ]
          replace HTH := Lib.hid (Kit.there_below HTH.out ((Below.refl _ _).alloc (Nat.le_refl _) (.cells (List.replicate 90 (.int .i8 0)).toArray 27)) (by first | (simp; done) | (simp; omega)))
          refine wpAnyH_take (i := 2) (oi := ({ dst := some 4, op := Op.build 32 #[(3, Operand.const (Value.int IntKind.i64 3)), (4, Operand.const (Value.int IntKind.i64 1)), (5, Operand.const (Value.int IntKind.i64 1)), (6, Operand.const (Value.int IntKind.i64 5)), (9, Operand.tmp 2), (10, Operand.tmp 3)], type := 32, pos := "law.go:13", after := #[{ on := 0, ground := Ground.data }, { on := 1, ground := Ground.data }], guard := none } : Oper)) (v := ?_) rfl (by kernel_rfl) (by kernel_rfl) (by kernel_rfl) (fun _ _ _ h => h) (Or.inl ⟨by rfl, ?_⟩) (by assumption) ?_
          rotate_left
          · intro wS hSw
            first
              | (go_simp; done)
              | (go_simp; with_reducible rfl)
          try simp only [Act.put, List.setIfInBounds_toArray, List.set_cons_zero, List.set_cons_succ]
          refine wpAnyH_ready (rs := [4]) (by kernel_rfl) (by simp) ?_
          refine AllReadyH.cons (o := ({ dst := none, op := Op.store 32 (Operand.tmp 1) (Operand.tmp 4), type := 0, pos := "law.go:13", after := #[{ on := 3, ground := Ground.data }, { on := 2, ground := Ground.data }, { on := 0, ground := Ground.phase }, { on := 1, ground := Ground.phase }, { on := 2, ground := Ground.phase }, { on := 3, ground := Ground.phase }], guard := none } : Oper)) rfl (fun K hK => ?_) (AllReadyH.nil)
          refine Eq.mpr (if_pos (by kernel_rfl)) ?_
          refine wp_store_mid 32 _ _ rfl (w.heap.size + 1) 0 _ rfl rfl HTH.out (by kernel_rfl) (by kernel_rfl) ?_
          refine hK.out _ _ ?_ (fun hHeld => ?_)
          · trivial
          clear hK K
          try simp only [Act.put]
          refine wpAnyH_done (by kernel_rfl) ?_ _
          go_wp2_with fail
          go_meet
          exact ⟨_, _, _, _, _, _, _, _, _, _, _, _, _, _, _, rfl, NodeAt.stored HTH.out _ _ _ _ _ _ _ _ _ _ _ _ _ _ _ _ _ _ _ _ _ _ _, Kit.below_cells (by first | exact Nat.le_refl _ | (simp; done) | omega) _ _ _ (by go_grown)⟩
        exact AllReadyH.nil
      exact AllReadyH.nil
    refine AllReadyH.cons (o := ({ dst := some 1, op := Op.alloc 32, type := 0, pos := "law.go:13", after := #[], guard := none } : Oper)) rfl (fun K hK => ?_) ?_
    · go_simp
      refine hK.out _ _ ?_ (fun hHeld => ?_)
      · trivial
      clear hK K
      try simp only [Act.put, List.setIfInBounds_toArray, List.set_cons_zero, List.set_cons_succ]
      have HTH : Hid ((w.drew.alloc (.cells #[.int .i64 0, .int .i64 0, .int .i64 0, .int .i64 0, .int .i64 0, .int .i64 0, .int .i64 0, .int .i8 0, .int .i8 0, .slice none 0 0, .slice none 0 0, .int .i32 0, .int .i64 0, .int .i8 0, .int .i32 0, .int .i64 0, .int .i8 0, .int .i8 0, .int .i8 0] 32)).there (w.heap.size) 0 19) := by
        have h := Kit.there_new (w.drew) (cs := #[.int .i64 0, .int .i64 0, .int .i64 0, .int .i64 0, .int .i64 0, .int .i64 0, .int .i64 0, .int .i8 0, .int .i8 0, .slice none 0 0, .slice none 0 0, .int .i32 0, .int .i64 0, .int .i8 0, .int .i32 0, .int .i64 0, .int .i8 0, .int .i8 0, .int .i8 0]) 32 (n := 19) rfl
        try simp only [World.size_alloc] at h
        exact Lib.hid h
      refine wpAnyH_ready (rs := [0, 1]) (by kernel_rfl) (by simp) ?_
      refine AllReadyH.cons (o := ({ dst := some 2, op := Op.makeSlice 24 (Operand.const (Value.int IntKind.i64 90)) (Operand.const (Value.int IntKind.i64 90)), type := 24, pos := "law.go:13", after := #[], guard := none } : Oper)) rfl (fun K hK => ?_) ?_
      · go_simp
        refine hK.out _ _ ?_ (fun hHeld => ?_)
        · trivial
        clear hK K
        try simp only [Act.put, List.setIfInBounds_toArray, List.set_cons_zero, List.set_cons_succ]
        replace HTH := Lib.hid (Kit.there_below HTH.out ((Below.refl _ _).alloc (Nat.le_refl _) (.cells (List.replicate 90 (.int .i8 0)).toArray 27)) (by first | (simp; done) | (simp; omega)))
        refine wpAnyH_ready (rs := [1]) (by kernel_rfl) (by simp) ?_
        refine AllReadyH.cons (o := ({ dst := some 3, op := Op.makeSlice 28 (Operand.const (Value.int IntKind.i64 5)) (Operand.const (Value.int IntKind.i64 5)), type := 28, pos := "law.go:13", after := #[], guard := none } : Oper)) rfl (fun K hK => ?_) ?_
        · go_simp
          refine hK.out _ _ ?_ (fun hHeld => ?_)
          · trivial
          clear hK K
          try simp only [Act.put, List.setIfInBounds_toArray, List.set_cons_zero, List.set_cons_succ]
          replace HTH := Lib.hid (Kit.there_below HTH.out ((Below.refl _ _).alloc (Nat.le_refl _) (.cells (List.replicate 5 (.int .i32 0)).toArray 21)) (by first | (simp; done) | (simp; omega)))
          refine wpAnyH_take (i := 2) (oi := ({ dst := some 4, op := Op.build 32 #[(3, Operand.const (Value.int IntKind.i64 3)), (4, Operand.const (Value.int IntKind.i64 1)), (5, Operand.const (Value.int IntKind.i64 1)), (6, Operand.const (Value.int IntKind.i64 5)), (9, Operand.tmp 2), (10, Operand.tmp 3)], type := 32, pos := "law.go:13", after := #[{ on := 0, ground := Ground.data }, { on := 1, ground := Ground.data }], guard := none } : Oper)) (v := ?_) rfl (by kernel_rfl) (by kernel_rfl) (by kernel_rfl) (fun _ _ _ h => h) (Or.inl ⟨by rfl, ?_⟩) (by assumption) ?_
          rotate_left
          · intro wS hSw
            first
              | (go_simp; done)
              | (go_simp; with_reducible rfl)
          try simp only [Act.put, List.setIfInBounds_toArray, List.set_cons_zero, List.set_cons_succ]
          refine wpAnyH_ready (rs := [4]) (by kernel_rfl) (by simp) ?_
          refine AllReadyH.cons (o := ({ dst := none, op := Op.store 32 (Operand.tmp 1) (Operand.tmp 4), type := 0, pos := "law.go:13", after := #[{ on := 3, ground := Ground.data }, { on := 2, ground := Ground.data }, { on := 0, ground := Ground.phase }, { on := 1, ground := Ground.phase }, { on := 2, ground := Ground.phase }, { on := 3, ground := Ground.phase }], guard := none } : Oper)) rfl (fun K hK => ?_) (AllReadyH.nil)
          refine Eq.mpr (if_pos (by kernel_rfl)) ?_
          refine wp_store_mid 32 _ _ rfl (w.heap.size) 0 _ rfl rfl HTH.out (by kernel_rfl) (by kernel_rfl) ?_
          refine hK.out _ _ ?_ (fun hHeld => ?_)
          · trivial
          clear hK K
          try simp only [Act.put]
          refine wpAnyH_done (by kernel_rfl) ?_ _
          go_wp2_with fail
          go_meet
          exact ⟨_, _, _, _, _, _, _, _, _, _, _, _, _, _, _, rfl, NodeAt.stored HTH.out _ _ _ _ _ _ _ _ _ _ _ _ _ _ _ _ _ _ _ _ _ _ _, Kit.below_cells (by first | exact Nat.le_refl _ | (simp; done) | omega) _ _ _ (by go_grown)⟩
        exact AllReadyH.nil
      refine AllReadyH.cons (o := ({ dst := some 3, op := Op.makeSlice 28 (Operand.const (Value.int IntKind.i64 5)) (Operand.const (Value.int IntKind.i64 5)), type := 28, pos := "law.go:13", after := #[], guard := none } : Oper)) rfl (fun K hK => ?_) ?_
      · go_simp
        refine hK.out _ _ ?_ (fun hHeld => ?_)
        · trivial
        clear hK K
        try simp only [Act.put, List.setIfInBounds_toArray, List.set_cons_zero, List.set_cons_succ]
        replace HTH := Lib.hid (Kit.there_below HTH.out ((Below.refl _ _).alloc (Nat.le_refl _) (.cells (List.replicate 5 (.int .i32 0)).toArray 21)) (by first | (simp; done) | (simp; omega)))
        refine wpAnyH_ready (rs := [0]) (by kernel_rfl) (by simp) ?_
        refine AllReadyH.cons (o := ({ dst := some 2, op := Op.makeSlice 24 (Operand.const (Value.int IntKind.i64 90)) (Operand.const (Value.int IntKind.i64 90)), type := 24, pos := "law.go:13", after := #[], guard := none } : Oper)) rfl (fun K hK => ?_) ?_
        · go_simp
          refine hK.out _ _ ?_ (fun hHeld => ?_)
          · trivial
          clear hK K
          try simp only [Act.put, List.setIfInBounds_toArray, List.set_cons_zero, List.set_cons_succ]
          replace HTH := Lib.hid (Kit.there_below HTH.out ((Below.refl _ _).alloc (Nat.le_refl _) (.cells (List.replicate 90 (.int .i8 0)).toArray 27)) (by first | (simp; done) | (simp; omega)))
          refine wpAnyH_take (i := 2) (oi := ({ dst := some 4, op := Op.build 32 #[(3, Operand.const (Value.int IntKind.i64 3)), (4, Operand.const (Value.int IntKind.i64 1)), (5, Operand.const (Value.int IntKind.i64 1)), (6, Operand.const (Value.int IntKind.i64 5)), (9, Operand.tmp 2), (10, Operand.tmp 3)], type := 32, pos := "law.go:13", after := #[{ on := 0, ground := Ground.data }, { on := 1, ground := Ground.data }], guard := none } : Oper)) (v := ?_) rfl (by kernel_rfl) (by kernel_rfl) (by kernel_rfl) (fun _ _ _ h => h) (Or.inl ⟨by rfl, ?_⟩) (by assumption) ?_
          rotate_left
          · intro wS hSw
            first
              | (go_simp; done)
              | (go_simp; with_reducible rfl)
          try simp only [Act.put, List.setIfInBounds_toArray, List.set_cons_zero, List.set_cons_succ]
          refine wpAnyH_ready (rs := [4]) (by kernel_rfl) (by simp) ?_
          refine AllReadyH.cons (o := ({ dst := none, op := Op.store 32 (Operand.tmp 1) (Operand.tmp 4), type := 0, pos := "law.go:13", after := #[{ on := 3, ground := Ground.data }, { on := 2, ground := Ground.data }, { on := 0, ground := Ground.phase }, { on := 1, ground := Ground.phase }, { on := 2, ground := Ground.phase }, { on := 3, ground := Ground.phase }], guard := none } : Oper)) rfl (fun K hK => ?_) (AllReadyH.nil)
          refine Eq.mpr (if_pos (by kernel_rfl)) ?_
          refine wp_store_mid 32 _ _ rfl (w.heap.size) 0 _ rfl rfl HTH.out (by kernel_rfl) (by kernel_rfl) ?_
          refine hK.out _ _ ?_ (fun hHeld => ?_)
          · trivial
          clear hK K
          try simp only [Act.put]
          refine wpAnyH_done (by kernel_rfl) ?_ _
          go_wp2_with fail
          go_meet
          exact ⟨_, _, _, _, _, _, _, _, _, _, _, _, _, _, _, rfl, NodeAt.stored HTH.out _ _ _ _ _ _ _ _ _ _ _ _ _ _ _ _ _ _ _ _ _ _ _, Kit.below_cells (by first | exact Nat.le_refl _ | (simp; done) | omega) _ _ _ (by go_grown)⟩
        exact AllReadyH.nil
      exact AllReadyH.nil
    exact AllReadyH.nil
  case rest =>
    obtain ⟨g, x0, x1, x2, x8, x11, x12, x13, x14, x15, x16, x17, x18, WA, BA, rfl, hN, hB⟩ := hcut
    have HN := Lib.hid hN
    have HB := Lib.hid hB
    clear hN hB hm8 hm32
    go_wp2_with (first
      | (go_at_call 16; ((with_reducible refine (work_ok 4 4 2 x0 x1 x2 x8 x11 x12 x13 x14 x15 x16 x17 x18 3 1 1 5 0 WA BA 90 90 5 5 K13.out 1440 K14.out _).mono ?_); rintro e w3 ⟨rfl, hb3⟩))
      | (refine wpList_load_mid rfl 32 (.tmp 1) rfl g 0 rfl [x0, x1, x2, .int .i64 3, .int .i64 1, .int .i64 1, .int .i64 5, .int .i8 0, x8, .slice WA 90 90, .slice BA 5 5, x11, x12, x13, x14, x15, x16, x17, x18] _ HN.out Try.underlying32 rfl (by kernel_rfl) ?_))
    go_ret
    exact ⟨rfl, HB.out.trans (hb3.mono HB.out.size)⟩
end Go.Proofs.Ytoobpjdbdikbiaa.CLower
