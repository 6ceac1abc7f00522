/- Contracts of tensor.Reach and of the document's own (layer 5). -/
import Derived.Test.YtkmcmaickopobaaSeq
import Derived.Test.YtkmcmaickopobaaRound
import Derived.BigRegionIn
import Derived.BigRegionIn
namespace Go.Proofs.Ytkmcmaickopobaa.CSeq
open Go Go.RowKit Go.Shelf Round
set_option linter.unusedVariables false
attribute [local go_sem] Oper.semAt_some

/-- the least and the greatest so far. -/
def stepR (s : Int × Int) (p : Nat × Int) : Int × Int := (min (if p.1 = 0 then p.2 else s.1) p.2, max (if p.1 = 0 then p.2 else s.2) p.2)
def reachF (l : List (Nat × Int)) : Int × Int := l.foldl stepR (0, 0)
theorem reachF_snoc (l : List (Nat × Int)) (p : Nat × Int) : reachF (l ++ [p]) = stepR (reachF l) p := by simp [reachF]

/-- two cells of two blocks, both stored anew. -/
theorem two_cells (W : World) (a b : Addr) (hne : a ≠ b) (u v : Value) (ha : (W.cell? a).isSome = true) (hb : (W.cell? b).isSome = true) :
    ((W.setCell a u).setCell b v).cell? a = some u ∧ ((W.setCell a u).setCell b v).cell? b = some v := by
  have h1 : (W.setCell a u).cell? a = some u := World.cell?_setCell_same' _ _ _ ha
  have h2 : (W.setCell a u).cell? b = W.cell? b := World.cell?_setCell_other _ _ _ _ hne
  refine ⟨?_, World.cell?_setCell_same' _ _ _ (by rw [h2]; exact hb)⟩
  rw [World.cell?_setCell_other _ _ _ _ (fun e => hne e.symm)]; exact h1

set_option maxRecDepth 100000 in
set_option maxHeartbeats 4000000 in
theorem reach_in (F : Fence) (n : Nat) (h22 : F.fn 19) (h46 : F.fn 32) (h53 : F.fn 38) (hro : F.round = none) (hn : 3 ≤ n) (H W C : Int) (A : Option Addr) (c : Nat) (zs : List Int) (hreach : zs.length ≤ 9223372036854775807) (w : World) (hI : Kit.Rd w w.heap.size A (zs.map (.int .i8))) :
    CallsIn F n Try.prog 19 #[.agg #[.int .i64 H, .int .i64 W, .int .i64 C, .slice A zs.length c]] w fun e W' => e = .returned (.tuple #[.int .i8 (reachF (pairs zs zs.length)).1, .int .i8 (reachF (pairs zs zs.length)).2]) ∧ Below w.heap.size w W' := by
  have h1 : 1 ≤ n := by omega
  refine callsIn_of_wp_marks Try.func19 rfl h22 ?_ hro
  simp only [Try.ntmps19, List.size_toArray, List.length_cons, List.length_nil, Nat.reduceAdd, Nat.reduceSub, Array.replicate_succ, Array.replicate_zero, List.push_toArray, List.append_toArray, List.nil_append, List.cons_append]
  gi_wp2_with (gi_at_call 32; refine (numbers_in F (n - 1) h46 hro _ _ _ _).mono ?_; rintro e w' ⟨rfl, rfl⟩)
  obtain ⟨Bt, hBt⟩ : ∃ Bt : Obj, Obj.cells #[.int .i64 H, .int .i64 W, .int .i64 C, .slice A zs.length c] 28 = Bt := ⟨_, rfl⟩
  have bL := Boxed.new (w.alloc (.cells #[.int .i64 H, .int .i64 W, .int .i64 C, .slice A zs.length c] 28)) 25 (.int .i8 0)
  have bH := Boxed.new ((w.alloc (.cells #[.int .i64 H, .int .i64 W, .int .i64 C, .slice A zs.length c] 28)).alloc (.cells #[.int .i8 0] 25)) 25 (.int .i8 0)
  have bN := Boxed.new (((w.alloc (.cells #[.int .i64 H, .int .i64 W, .int .i64 C, .slice A zs.length c] 28)).alloc (.cells #[.int .i8 0] 25)).alloc (.cells #[.int .i8 0] 25)) 24 (.slice A zs.length c)
  simp only [World.size_alloc] at bL bH bN
  have hB0 : Below w.heap.size w ((((w.alloc (.cells #[.int .i64 H, .int .i64 W, .int .i64 C, .slice A zs.length c] 28)).alloc (.cells #[.int .i8 0] 25)).alloc (.cells #[.int .i8 0] 25)).alloc (.cells #[.slice A zs.length c] 24)) :=
    ((((Below.refl _ w).alloc (Nat.le_refl _) _).alloc (by simp) _).alloc (by simp; omega) _).alloc (by simp; omega) _
  refine wpIn_rangeFunc_ownG hro h1 (gf := 38) (lb := #[.pointer (some ⟨w.heap.size + 1 + 1 + 1, 0, none⟩)]) rfl h53 (enters_of Try.func38 (by kernel_rfl) rfl)
    (each_stops F (n - 1) h53 hro (by omega) (w.heap.size + 1 + 1 + 1) w.heap.size A c zs hreach _ (by simp) (by simp; omega) bN.cell (hI.below hB0)) belowK_t (belowK_b (by simp; omega)) (Below.refl _ _) (fun _ => rfl)
    (fun pre W => (W.cell? ⟨w.heap.size + 1, 0, none⟩ = some (.int .i8 (reachF pre).1) ∧ W.frozen? ⟨w.heap.size + 1, 0, none⟩ = false ∧ W.cell? ⟨w.heap.size + 1 + 1, 0, none⟩ = some (.int .i8 (reachF pre).2) ∧ W.frozen? ⟨w.heap.size + 1 + 1, 0, none⟩ = false) ∧ Below w.heap.size w W)
    (fun _ _ _ => False)
    (OwnFrom.and (Own.from (fun s A B row hs hg hr => ⟨cell_kept hs.1 hg hr, (frozen_kept hs.1 hg hr).trans hs.2.1, cell_kept hs.2.2.1 hg hr, (frozen_kept hs.2.2.1 hg hr).trans hs.2.2.2⟩) _) (ownFrom_below (Nat.le_refl _) (by simp; omega)))
    (fun _ _ _ _ _ hs _ _ => hs)
    ⟨⟨((bL.alloc _).alloc _).cell, ((bL.alloc _).alloc _).frozen, (bH.alloc _).cell, (bH.alloc _).frozen⟩, hB0⟩
    (fun x => { tmps := #[.agg #[.int .i64 H, .int .i64 W, .int .i64 C, .slice A zs.length c], .pointer (some ⟨w.heap.size, 0, none⟩), .pointer (some ⟨w.heap.size + 1, 0, none⟩), .pointer (some ⟨w.heap.size + 1 + 1, 0, none⟩), .int .i64 (x.1 : Int), .int .i8 x.2, .pointer (some ⟨w.heap.size, 3, none⟩), .slice A zs.length c, .func (.func 38) #[] #[.pointer (some ⟨w.heap.size + 1 + 1 + 1, 0, none⟩)], .int .i64 (x.1 : Int), .int .i8 x.2, undef, undef, undef, undef, undef, undef, undef, undef, undef, undef, undef, undef], defers := [] }) ?assign ?body ?done ?stop
  case assign =>
    intro l x W K hK
    gi_wp2
    exact hK
  case body =>
    rintro l pre x W ⟨⟨hc1, hf1, hc2, hf2⟩, hB⟩ _
    have HB := Lib.hid hB
    clear hB hB0 bL bH bN hI hreach hBt
    have hne : (⟨w.heap.size + 1, 0, none⟩ : Addr) ≠ ⟨w.heap.size + 1 + 1, 0, none⟩ := fun e => by have := congrArg Addr.block e; simp at this
    have hst := reachF_snoc pre x
    have hS := Lib.hid hst
    clear hst
    clear h22 h46 h53 hro hn h1
    gi_wp2
    · have hx : x.1 = 0 := by have h : ((x.1 : Int) == 0) = true := by assumption
                              simpa using h
      obtain ⟨e1, e2⟩ := two_cells W _ _ hne (.int .i8 x.2) (.int .i8 x.2) (by rw [hc1]; rfl) (by rw [hc2]; rfl)
      obtain ⟨e3, e4⟩ := two_cells _ _ _ hne (.int .i8 x.2) (.int .i8 x.2) (by rw [e1]; rfl) (by rw [e2]; rfl)
      have HMN : Hid (min x.2 x.2 = x.2) := Lib.hid (by omega)
      have HMX : Hid (max x.2 x.2 = x.2) := Lib.hid (by omega)
      have E3 := Lib.hid e3
      have E4 := Lib.hid e4
      have HX := Lib.hid hx
      clear e3 e4 hne hx hc1 hc2
      refine region_round (by kernel_rfl) (still_of_list (by simp only [List.forall_mem_cons]; exact ⟨still_load .., still_move .., still_builtin_min .., still_load .., still_move .., still_builtin_max .., still_store .., still_store .., fun _ h => by cases h⟩)) ?_
      refine wpAny_take (i := 1) (oi := ({ dst := some 16, op := Op.move (Operand.tmp 5), type := 25, pos := "tensor.go:113", after := #[], guard := none } : Oper)) (v := ?_) rfl (by kernel_rfl) (by kernel_rfl) (by kernel_rfl) (fun _ _ _ h => h) (Or.inl ⟨by rfl, ?_⟩) ?_
      rotate_left
      · intro wS
        first
          | (go_simp; done)
          | (go_simp; with_reducible rfl)
      try simp only [Act.put, List.setIfInBounds_toArray, List.set_cons_zero, List.set_cons_succ]
      refine wpAny_take (i := 4) (oi := ({ dst := some 19, op := Op.move (Operand.tmp 5), type := 25, pos := "tensor.go:113", after := #[], guard := none } : Oper)) (v := ?_) rfl (by kernel_rfl) (by kernel_rfl) (by kernel_rfl) (fun _ _ _ h => h) (Or.inl ⟨by rfl, ?_⟩) ?_
      rotate_left
      · intro wS
        first
          | (go_simp; done)
          | (go_simp; with_reducible rfl)
      try simp only [Act.put, List.setIfInBounds_toArray, List.set_cons_zero, List.set_cons_succ]
      refine wpAny_ready (rs := [0, 3]) (by kernel_rfl) (by simp) ?_
      refine AllReady.cons (o := ({ dst := some 15, op := Op.load 25 (Operand.tmp 2), type := 25, pos := "tensor.go:113", after := #[], guard := none } : Oper)) rfl (fun K hK => ?_) ?_
      · go_simp
        refine hK _ _ ?_
        clear hK K
        try simp only [Act.put, List.setIfInBounds_toArray, List.set_cons_zero, List.set_cons_succ]
        refine wpAny_take (i := 2) (oi := ({ dst := some 17, op := Op.call { callee := Callee.builtin Builtin.min, args := #[Operand.tmp 15, Operand.tmp 16], argTypes := #[25, 25] }, type := 25, pos := "tensor.go:113", after := #[{ on := 0, ground := Ground.data }, { on := 1, ground := Ground.data }], guard := none } : Oper)) (v := ?_) rfl (by kernel_rfl) (by kernel_rfl) (by kernel_rfl) (fun _ _ _ h => h) (Or.inl ⟨by rfl, ?_⟩) ?_
        rotate_left
        · intro wS
          first
            | (go_simp; done)
            | (go_simp; with_reducible rfl)
        try simp only [Act.put, List.setIfInBounds_toArray, List.set_cons_zero, List.set_cons_succ]
        refine wpAny_ready (rs := [3, 6]) (by kernel_rfl) (by simp) ?_
        refine AllReady.cons (o := ({ dst := some 18, op := Op.load 25 (Operand.tmp 3), type := 25, pos := "tensor.go:113", after := #[], guard := none } : Oper)) rfl (fun K hK => ?_) ?_
        · go_simp
          refine hK _ _ ?_
          clear hK K
          try simp only [Act.put, List.setIfInBounds_toArray, List.set_cons_zero, List.set_cons_succ]
          refine wpAny_take (i := 5) (oi := ({ dst := some 20, op := Op.call { callee := Callee.builtin Builtin.max, args := #[Operand.tmp 18, Operand.tmp 19], argTypes := #[25, 25] }, type := 25, pos := "tensor.go:113", after := #[{ on := 3, ground := Ground.data }, { on := 4, ground := Ground.data }], guard := none } : Oper)) (v := ?_) rfl (by kernel_rfl) (by kernel_rfl) (by kernel_rfl) (fun _ _ _ h => h) (Or.inl ⟨by rfl, ?_⟩) ?_
          rotate_left
          · intro wS
            first
              | (go_simp; done)
              | (go_simp; with_reducible rfl)
          try simp only [Act.put, List.setIfInBounds_toArray, List.set_cons_zero, List.set_cons_succ]
          refine wpAny_ready (rs := [6]) (by kernel_rfl) (by simp) ?_
          refine AllReady.cons (o := ({ dst := none, op := Op.store 25 (Operand.tmp 2) (Operand.tmp 17), type := 0, pos := "tensor.go:113", after := #[{ on := 2, ground := Ground.data }, { on := 0, ground := Ground.phase }, { on := 1, ground := Ground.phase }, { on := 2, ground := Ground.phase }, { on := 3, ground := Ground.textOnly Departure.inlinedCapture }, { on := 4, ground := Ground.textOnly Departure.lateStores }, { on := 5, ground := Ground.textOnly Departure.lateStoresUnsure }], guard := none } : Oper)) rfl (fun K hK => ?_) (fun j hj => by cases hj)
          go_simp
          refine hK _ _ ?_
          clear hK K
          try simp only [Act.put, List.setIfInBounds_toArray, List.set_cons_zero, List.set_cons_succ]
          refine wpAny_ready (rs := [7]) (by kernel_rfl) (by simp) ?_
          refine AllReady.cons (o := ({ dst := none, op := Op.store 25 (Operand.tmp 3) (Operand.tmp 20), type := 0, pos := "tensor.go:113", after := #[{ on := 5, ground := Ground.data }, { on := 6, ground := Ground.chain }, { on := 0, ground := Ground.phase }, { on := 1, ground := Ground.phase }, { on := 2, ground := Ground.phase }, { on := 3, ground := Ground.phase }, { on := 4, ground := Ground.phase }, { on := 5, ground := Ground.phase }, { on := 6, ground := Ground.phase }], guard := none } : Oper)) rfl (fun K hK => ?_) (fun j hj => by cases hj)
          go_simp
          refine hK _ _ ?_
          clear hK K
          try simp only [Act.put, List.setIfInBounds_toArray, List.set_cons_zero, List.set_cons_succ]
          refine wpAny_done (by kernel_rfl) ?_ _
          show Exit.inBlock 1 _ Exit.normal _ _
          gi_wp2
          (
            refine ⟨(((((KeepsOthers.setCell _ _ _).trans (KeepsOthers.setCell _ _ _)).trans (KeepsOthers.setCell _ _ _)).trans (KeepsOthers.setCell _ _ _)).trans (KeepsOthers.drew _)).from _, (((((Below.refl w.heap.size W).setCell (p := ⟨w.heap.size + 1, 0, none⟩) (by simp) _).setCell (p := ⟨w.heap.size + 1 + 1, 0, none⟩) (by simp; omega) _).setCell (p := ⟨w.heap.size + 1, 0, none⟩) (by simp) _).setCell (p := ⟨w.heap.size + 1 + 1, 0, none⟩) (by simp; omega) _).drew, ⟨?_, ?_, ?_, ?_⟩, HB.out.trans ((((((Below.refl w.heap.size W).setCell (p := ⟨w.heap.size + 1, 0, none⟩) (by simp) _).setCell (p := ⟨w.heap.size + 1 + 1, 0, none⟩) (by simp; omega) _).setCell (p := ⟨w.heap.size + 1, 0, none⟩) (by simp) _).setCell (p := ⟨w.heap.size + 1 + 1, 0, none⟩) (by simp; omega) _).drew)⟩
            · rw [hS.out]; simpa [stepR, HX.out, HMN.out] using E3.out
            · simpa [World.frozen?_setCell] using hf1
            · rw [hS.out]; simpa [stepR, HX.out, HMX.out] using E4.out
            · simpa [World.frozen?_setCell] using hf2)
        refine AllReady.cons (o := ({ dst := none, op := Op.store 25 (Operand.tmp 2) (Operand.tmp 17), type := 0, pos := "tensor.go:113", after := #[{ on := 2, ground := Ground.data }, { on := 0, ground := Ground.phase }, { on := 1, ground := Ground.phase }, { on := 2, ground := Ground.phase }, { on := 3, ground := Ground.textOnly Departure.inlinedCapture }, { on := 4, ground := Ground.textOnly Departure.lateStores }, { on := 5, ground := Ground.textOnly Departure.lateStoresUnsure }], guard := none } : Oper)) rfl (fun K hK => ?_) ?_
        · go_simp
          refine hK _ _ ?_
          clear hK K
          try simp only [Act.put, List.setIfInBounds_toArray, List.set_cons_zero, List.set_cons_succ]
          refine wpAny_ready (rs := [3]) (by kernel_rfl) (by simp) ?_
          refine AllReady.cons (o := ({ dst := some 18, op := Op.load 25 (Operand.tmp 3), type := 25, pos := "tensor.go:113", after := #[], guard := none } : Oper)) rfl (fun K hK => ?_) (fun j hj => by cases hj)
          go_simp
          refine hK _ _ ?_
          clear hK K
          try simp only [Act.put, List.setIfInBounds_toArray, List.set_cons_zero, List.set_cons_succ]
          refine wpAny_take (i := 5) (oi := ({ dst := some 20, op := Op.call { callee := Callee.builtin Builtin.max, args := #[Operand.tmp 18, Operand.tmp 19], argTypes := #[25, 25] }, type := 25, pos := "tensor.go:113", after := #[{ on := 3, ground := Ground.data }, { on := 4, ground := Ground.data }], guard := none } : Oper)) (v := ?_) rfl (by kernel_rfl) (by kernel_rfl) (by kernel_rfl) (fun _ _ _ h => h) (Or.inl ⟨by rfl, ?_⟩) ?_
          rotate_left
          · intro wS
            first
              | (go_simp; done)
              | (go_simp; with_reducible rfl)
          try simp only [Act.put, List.setIfInBounds_toArray, List.set_cons_zero, List.set_cons_succ]
          refine wpAny_ready (rs := [7]) (by kernel_rfl) (by simp) ?_
          refine AllReady.cons (o := ({ dst := none, op := Op.store 25 (Operand.tmp 3) (Operand.tmp 20), type := 0, pos := "tensor.go:113", after := #[{ on := 5, ground := Ground.data }, { on := 6, ground := Ground.chain }, { on := 0, ground := Ground.phase }, { on := 1, ground := Ground.phase }, { on := 2, ground := Ground.phase }, { on := 3, ground := Ground.phase }, { on := 4, ground := Ground.phase }, { on := 5, ground := Ground.phase }, { on := 6, ground := Ground.phase }], guard := none } : Oper)) rfl (fun K hK => ?_) (fun j hj => by cases hj)
          go_simp
          refine hK _ _ ?_
          clear hK K
          try simp only [Act.put, List.setIfInBounds_toArray, List.set_cons_zero, List.set_cons_succ]
          refine wpAny_done (by kernel_rfl) ?_ _
          show Exit.inBlock 1 _ Exit.normal _ _
          gi_wp2
          (
            refine ⟨(((((KeepsOthers.setCell _ _ _).trans (KeepsOthers.setCell _ _ _)).trans (KeepsOthers.setCell _ _ _)).trans (KeepsOthers.setCell _ _ _)).trans (KeepsOthers.drew _)).from _, (((((Below.refl w.heap.size W).setCell (p := ⟨w.heap.size + 1, 0, none⟩) (by simp) _).setCell (p := ⟨w.heap.size + 1 + 1, 0, none⟩) (by simp; omega) _).setCell (p := ⟨w.heap.size + 1, 0, none⟩) (by simp) _).setCell (p := ⟨w.heap.size + 1 + 1, 0, none⟩) (by simp; omega) _).drew, ⟨?_, ?_, ?_, ?_⟩, HB.out.trans ((((((Below.refl w.heap.size W).setCell (p := ⟨w.heap.size + 1, 0, none⟩) (by simp) _).setCell (p := ⟨w.heap.size + 1 + 1, 0, none⟩) (by simp; omega) _).setCell (p := ⟨w.heap.size + 1, 0, none⟩) (by simp) _).setCell (p := ⟨w.heap.size + 1 + 1, 0, none⟩) (by simp; omega) _).drew)⟩
            · rw [hS.out]; simpa [stepR, HX.out, HMN.out] using E3.out
            · simpa [World.frozen?_setCell] using hf1
            · rw [hS.out]; simpa [stepR, HX.out, HMX.out] using E4.out
            · simpa [World.frozen?_setCell] using hf2)
        exact fun j hj => by cases hj
      refine AllReady.cons (o := ({ dst := some 18, op := Op.load 25 (Operand.tmp 3), type := 25, pos := "tensor.go:113", after := #[], guard := none } : Oper)) rfl (fun K hK => ?_) ?_
      · go_simp
        refine hK _ _ ?_
        clear hK K
        try simp only [Act.put, List.setIfInBounds_toArray, List.set_cons_zero, List.set_cons_succ]
        refine wpAny_take (i := 5) (oi := ({ dst := some 20, op := Op.call { callee := Callee.builtin Builtin.max, args := #[Operand.tmp 18, Operand.tmp 19], argTypes := #[25, 25] }, type := 25, pos := "tensor.go:113", after := #[{ on := 3, ground := Ground.data }, { on := 4, ground := Ground.data }], guard := none } : Oper)) (v := ?_) rfl (by kernel_rfl) (by kernel_rfl) (by kernel_rfl) (fun _ _ _ h => h) (Or.inl ⟨by rfl, ?_⟩) ?_
        rotate_left
        · intro wS
          first
            | (go_simp; done)
            | (go_simp; with_reducible rfl)
        try simp only [Act.put, List.setIfInBounds_toArray, List.set_cons_zero, List.set_cons_succ]
        refine wpAny_ready (rs := [0]) (by kernel_rfl) (by simp) ?_
        refine AllReady.cons (o := ({ dst := some 15, op := Op.load 25 (Operand.tmp 2), type := 25, pos := "tensor.go:113", after := #[], guard := none } : Oper)) rfl (fun K hK => ?_) (fun j hj => by cases hj)
        go_simp
        refine hK _ _ ?_
        clear hK K
        try simp only [Act.put, List.setIfInBounds_toArray, List.set_cons_zero, List.set_cons_succ]
        refine wpAny_take (i := 2) (oi := ({ dst := some 17, op := Op.call { callee := Callee.builtin Builtin.min, args := #[Operand.tmp 15, Operand.tmp 16], argTypes := #[25, 25] }, type := 25, pos := "tensor.go:113", after := #[{ on := 0, ground := Ground.data }, { on := 1, ground := Ground.data }], guard := none } : Oper)) (v := ?_) rfl (by kernel_rfl) (by kernel_rfl) (by kernel_rfl) (fun _ _ _ h => h) (Or.inl ⟨by rfl, ?_⟩) ?_
        rotate_left
        · intro wS
          first
            | (go_simp; done)
            | (go_simp; with_reducible rfl)
        try simp only [Act.put, List.setIfInBounds_toArray, List.set_cons_zero, List.set_cons_succ]
        refine wpAny_ready (rs := [6]) (by kernel_rfl) (by simp) ?_
        refine AllReady.cons (o := ({ dst := none, op := Op.store 25 (Operand.tmp 2) (Operand.tmp 17), type := 0, pos := "tensor.go:113", after := #[{ on := 2, ground := Ground.data }, { on := 0, ground := Ground.phase }, { on := 1, ground := Ground.phase }, { on := 2, ground := Ground.phase }, { on := 3, ground := Ground.textOnly Departure.inlinedCapture }, { on := 4, ground := Ground.textOnly Departure.lateStores }, { on := 5, ground := Ground.textOnly Departure.lateStoresUnsure }], guard := none } : Oper)) rfl (fun K hK => ?_) (fun j hj => by cases hj)
        go_simp
        refine hK _ _ ?_
        clear hK K
        try simp only [Act.put, List.setIfInBounds_toArray, List.set_cons_zero, List.set_cons_succ]
        refine wpAny_ready (rs := [7]) (by kernel_rfl) (by simp) ?_
        refine AllReady.cons (o := ({ dst := none, op := Op.store 25 (Operand.tmp 3) (Operand.tmp 20), type := 0, pos := "tensor.go:113", after := #[{ on := 5, ground := Ground.data }, { on := 6, ground := Ground.chain }, { on := 0, ground := Ground.phase }, { on := 1, ground := Ground.phase }, { on := 2, ground := Ground.phase }, { on := 3, ground := Ground.phase }, { on := 4, ground := Ground.phase }, { on := 5, ground := Ground.phase }, { on := 6, ground := Ground.phase }], guard := none } : Oper)) rfl (fun K hK => ?_) (fun j hj => by cases hj)
        go_simp
        refine hK _ _ ?_
        clear hK K
        try simp only [Act.put, List.setIfInBounds_toArray, List.set_cons_zero, List.set_cons_succ]
        refine wpAny_done (by kernel_rfl) ?_ _
        show Exit.inBlock 1 _ Exit.normal _ _
        gi_wp2
        (
            refine ⟨(((((KeepsOthers.setCell _ _ _).trans (KeepsOthers.setCell _ _ _)).trans (KeepsOthers.setCell _ _ _)).trans (KeepsOthers.setCell _ _ _)).trans (KeepsOthers.drew _)).from _, (((((Below.refl w.heap.size W).setCell (p := ⟨w.heap.size + 1, 0, none⟩) (by simp) _).setCell (p := ⟨w.heap.size + 1 + 1, 0, none⟩) (by simp; omega) _).setCell (p := ⟨w.heap.size + 1, 0, none⟩) (by simp) _).setCell (p := ⟨w.heap.size + 1 + 1, 0, none⟩) (by simp; omega) _).drew, ⟨?_, ?_, ?_, ?_⟩, HB.out.trans ((((((Below.refl w.heap.size W).setCell (p := ⟨w.heap.size + 1, 0, none⟩) (by simp) _).setCell (p := ⟨w.heap.size + 1 + 1, 0, none⟩) (by simp; omega) _).setCell (p := ⟨w.heap.size + 1, 0, none⟩) (by simp) _).setCell (p := ⟨w.heap.size + 1 + 1, 0, none⟩) (by simp; omega) _).drew)⟩
            · rw [hS.out]; simpa [stepR, HX.out, HMN.out] using E3.out
            · simpa [World.frozen?_setCell] using hf1
            · rw [hS.out]; simpa [stepR, HX.out, HMX.out] using E4.out
            · simpa [World.frozen?_setCell] using hf2)
      exact fun j hj => by cases hj
    · have hx : ¬ x.1 = 0 := by have h : ((x.1 : Int) == 0) = false := by assumption
                                simpa using h
      obtain ⟨a, ha⟩ : ∃ a, (reachF pre).1 = a := ⟨_, rfl⟩
      obtain ⟨b, hb⟩ : ∃ b, (reachF pre).2 = b := ⟨_, rfl⟩
      rw [ha] at hc1
      rw [hb] at hc2
      have hS2 : Hid (reachF (pre ++ [x]) = (min a x.2, max b x.2)) := Lib.hid (by rw [hS.out]; simp [stepR, hx, ha, hb])
      clear hS ha hb
      have hmn : ∃ m, min a x.2 = m ∧ ((a ≤ x.2 ∧ ¬ x.2 < a ∧ m = a) ∨ (x.2 < a ∧ ¬ a ≤ x.2 ∧ m = x.2)) := ⟨_, rfl, by omega⟩
      have hmx : ∃ m, max b x.2 = m ∧ ((b < x.2 ∧ ¬ x.2 ≤ b ∧ m = x.2) ∨ (x.2 ≤ b ∧ ¬ b < x.2 ∧ m = b)) := ⟨_, rfl, by omega⟩
      obtain ⟨m1, hm1, hmn⟩ := hmn
      obtain ⟨m2, hm2, hmx⟩ := hmx
      rw [hm1, hm2] at hS2
      clear hm1 hm2
      rcases hmn with ⟨q1, q2, rfl⟩ | ⟨q1, q2, rfl⟩ <;> rcases hmx with ⟨q3, q4, rfl⟩ | ⟨q3, q4, rfl⟩
      all_goals
        have HNE := Lib.hid hne
        refine region_round (by kernel_rfl) (still_of_list (by simp only [List.forall_mem_cons]; exact ⟨still_load .., still_move .., still_builtin_min .., still_load .., still_move .., still_builtin_max .., still_store .., still_store .., fun _ h => by cases h⟩)) ?_
        refine wpAny_take (i := 1) (oi := ({ dst := some 16, op := Op.move (Operand.tmp 5), type := 25, pos := "tensor.go:113", after := #[], guard := none } : Oper)) (v := ?_) rfl (by kernel_rfl) (by kernel_rfl) (by kernel_rfl) (fun _ _ _ h => h) (Or.inl ⟨by rfl, ?_⟩) ?_
        rotate_left
        · intro wS
          first
            | (go_simp; done)
            | (go_simp; with_reducible rfl)
        try simp only [Act.put, List.setIfInBounds_toArray, List.set_cons_zero, List.set_cons_succ]
        refine wpAny_take (i := 4) (oi := ({ dst := some 19, op := Op.move (Operand.tmp 5), type := 25, pos := "tensor.go:113", after := #[], guard := none } : Oper)) (v := ?_) rfl (by kernel_rfl) (by kernel_rfl) (by kernel_rfl) (fun _ _ _ h => h) (Or.inl ⟨by rfl, ?_⟩) ?_
        rotate_left
        · intro wS
          first
            | (go_simp; done)
            | (go_simp; with_reducible rfl)
        try simp only [Act.put, List.setIfInBounds_toArray, List.set_cons_zero, List.set_cons_succ]
        refine wpAny_ready (rs := [0, 3]) (by kernel_rfl) (by simp) ?_
        refine AllReady.cons (o := ({ dst := some 15, op := Op.load 25 (Operand.tmp 2), type := 25, pos := "tensor.go:113", after := #[], guard := none } : Oper)) rfl (fun K hK => ?_) ?_
        · go_simp
          refine hK _ _ ?_
          clear hK K
          try simp only [Act.put, List.setIfInBounds_toArray, List.set_cons_zero, List.set_cons_succ]
          refine wpAny_take (i := 2) (oi := ({ dst := some 17, op := Op.call { callee := Callee.builtin Builtin.min, args := #[Operand.tmp 15, Operand.tmp 16], argTypes := #[25, 25] }, type := 25, pos := "tensor.go:113", after := #[{ on := 0, ground := Ground.data }, { on := 1, ground := Ground.data }], guard := none } : Oper)) (v := ?_) rfl (by kernel_rfl) (by kernel_rfl) (by kernel_rfl) (fun _ _ _ h => h) (Or.inl ⟨by rfl, ?_⟩) ?_
          rotate_left
          · intro wS
            first
              | (go_simp; done)
              | (go_simp; with_reducible rfl)
          try simp only [Act.put, List.setIfInBounds_toArray, List.set_cons_zero, List.set_cons_succ]
          refine wpAny_ready (rs := [3, 6]) (by kernel_rfl) (by simp) ?_
          refine AllReady.cons (o := ({ dst := some 18, op := Op.load 25 (Operand.tmp 3), type := 25, pos := "tensor.go:113", after := #[], guard := none } : Oper)) rfl (fun K hK => ?_) ?_
          · go_simp
            refine hK _ _ ?_
            clear hK K
            try simp only [Act.put, List.setIfInBounds_toArray, List.set_cons_zero, List.set_cons_succ]
            refine wpAny_take (i := 5) (oi := ({ dst := some 20, op := Op.call { callee := Callee.builtin Builtin.max, args := #[Operand.tmp 18, Operand.tmp 19], argTypes := #[25, 25] }, type := 25, pos := "tensor.go:113", after := #[{ on := 3, ground := Ground.data }, { on := 4, ground := Ground.data }], guard := none } : Oper)) (v := ?_) rfl (by kernel_rfl) (by kernel_rfl) (by kernel_rfl) (fun _ _ _ h => h) (Or.inl ⟨by rfl, ?_⟩) ?_
            rotate_left
            · intro wS
              first
                | (go_simp; done)
                | (go_simp; with_reducible rfl)
            try simp only [Act.put, List.setIfInBounds_toArray, List.set_cons_zero, List.set_cons_succ]
            refine wpAny_ready (rs := [6]) (by kernel_rfl) (by simp) ?_
            refine AllReady.cons (o := ({ dst := none, op := Op.store 25 (Operand.tmp 2) (Operand.tmp 17), type := 0, pos := "tensor.go:113", after := #[{ on := 2, ground := Ground.data }, { on := 0, ground := Ground.phase }, { on := 1, ground := Ground.phase }, { on := 2, ground := Ground.phase }, { on := 3, ground := Ground.textOnly Departure.inlinedCapture }, { on := 4, ground := Ground.textOnly Departure.lateStores }, { on := 5, ground := Ground.textOnly Departure.lateStoresUnsure }], guard := none } : Oper)) rfl (fun K hK => ?_) (fun j hj => by cases hj)
            go_simp
            refine hK _ _ ?_
            clear hK K
            try simp only [Act.put, List.setIfInBounds_toArray, List.set_cons_zero, List.set_cons_succ]
            refine wpAny_ready (rs := [7]) (by kernel_rfl) (by simp) ?_
            refine AllReady.cons (o := ({ dst := none, op := Op.store 25 (Operand.tmp 3) (Operand.tmp 20), type := 0, pos := "tensor.go:113", after := #[{ on := 5, ground := Ground.data }, { on := 6, ground := Ground.chain }, { on := 0, ground := Ground.phase }, { on := 1, ground := Ground.phase }, { on := 2, ground := Ground.phase }, { on := 3, ground := Ground.phase }, { on := 4, ground := Ground.phase }, { on := 5, ground := Ground.phase }, { on := 6, ground := Ground.phase }], guard := none } : Oper)) rfl (fun K hK => ?_) (fun j hj => by cases hj)
            go_simp
            refine hK _ _ ?_
            clear hK K
            try simp only [Act.put, List.setIfInBounds_toArray, List.set_cons_zero, List.set_cons_succ]
            refine wpAny_done (by kernel_rfl) ?_ _
            show Exit.inBlock 1 _ Exit.normal _ _
            gi_wp2
            (
            refine ⟨(((KeepsOthers.setCell _ _ _).trans (KeepsOthers.setCell _ _ _)).trans (KeepsOthers.drew _)).from _, (((Below.refl w.heap.size W).setCell (p := ⟨w.heap.size + 1, 0, none⟩) (by simp) _).setCell (p := ⟨w.heap.size + 1 + 1, 0, none⟩) (by simp; omega) _).drew, ⟨?_, ?_, ?_, ?_⟩, HB.out.trans ((((Below.refl w.heap.size W).setCell (p := ⟨w.heap.size + 1, 0, none⟩) (by simp) _).setCell (p := ⟨w.heap.size + 1 + 1, 0, none⟩) (by simp; omega) _).drew)⟩
            · rw [hS2.out]; exact (two_cells W _ _ hne _ _ (by rw [hc1]; rfl) (by rw [hc2]; rfl)).1
            · simpa [World.frozen?_setCell] using hf1
            · rw [hS2.out]; exact (two_cells W _ _ hne _ _ (by rw [hc1]; rfl) (by rw [hc2]; rfl)).2
            · simpa [World.frozen?_setCell] using hf2)
          refine AllReady.cons (o := ({ dst := none, op := Op.store 25 (Operand.tmp 2) (Operand.tmp 17), type := 0, pos := "tensor.go:113", after := #[{ on := 2, ground := Ground.data }, { on := 0, ground := Ground.phase }, { on := 1, ground := Ground.phase }, { on := 2, ground := Ground.phase }, { on := 3, ground := Ground.textOnly Departure.inlinedCapture }, { on := 4, ground := Ground.textOnly Departure.lateStores }, { on := 5, ground := Ground.textOnly Departure.lateStoresUnsure }], guard := none } : Oper)) rfl (fun K hK => ?_) ?_
          · go_simp
            refine hK _ _ ?_
            clear hK K
            try simp only [Act.put, List.setIfInBounds_toArray, List.set_cons_zero, List.set_cons_succ]
            refine wpAny_ready (rs := [3]) (by kernel_rfl) (by simp) ?_
            refine AllReady.cons (o := ({ dst := some 18, op := Op.load 25 (Operand.tmp 3), type := 25, pos := "tensor.go:113", after := #[], guard := none } : Oper)) rfl (fun K hK => ?_) (fun j hj => by cases hj)
            go_simp
            refine hK _ _ ?_
            clear hK K
            try simp only [Act.put, List.setIfInBounds_toArray, List.set_cons_zero, List.set_cons_succ]
            refine wpAny_take (i := 5) (oi := ({ dst := some 20, op := Op.call { callee := Callee.builtin Builtin.max, args := #[Operand.tmp 18, Operand.tmp 19], argTypes := #[25, 25] }, type := 25, pos := "tensor.go:113", after := #[{ on := 3, ground := Ground.data }, { on := 4, ground := Ground.data }], guard := none } : Oper)) (v := ?_) rfl (by kernel_rfl) (by kernel_rfl) (by kernel_rfl) (fun _ _ _ h => h) (Or.inl ⟨by rfl, ?_⟩) ?_
            rotate_left
            · intro wS
              first
                | (go_simp; done)
                | (go_simp; with_reducible rfl)
            try simp only [Act.put, List.setIfInBounds_toArray, List.set_cons_zero, List.set_cons_succ]
            refine wpAny_ready (rs := [7]) (by kernel_rfl) (by simp) ?_
            refine AllReady.cons (o := ({ dst := none, op := Op.store 25 (Operand.tmp 3) (Operand.tmp 20), type := 0, pos := "tensor.go:113", after := #[{ on := 5, ground := Ground.data }, { on := 6, ground := Ground.chain }, { on := 0, ground := Ground.phase }, { on := 1, ground := Ground.phase }, { on := 2, ground := Ground.phase }, { on := 3, ground := Ground.phase }, { on := 4, ground := Ground.phase }, { on := 5, ground := Ground.phase }, { on := 6, ground := Ground.phase }], guard := none } : Oper)) rfl (fun K hK => ?_) (fun j hj => by cases hj)
            go_simp
            refine hK _ _ ?_
            clear hK K
            try simp only [Act.put, List.setIfInBounds_toArray, List.set_cons_zero, List.set_cons_succ]
            refine wpAny_done (by kernel_rfl) ?_ _
            show Exit.inBlock 1 _ Exit.normal _ _
            gi_wp2
            (
            refine ⟨(((KeepsOthers.setCell _ _ _).trans (KeepsOthers.setCell _ _ _)).trans (KeepsOthers.drew _)).from _, (((Below.refl w.heap.size W).setCell (p := ⟨w.heap.size + 1, 0, none⟩) (by simp) _).setCell (p := ⟨w.heap.size + 1 + 1, 0, none⟩) (by simp; omega) _).drew, ⟨?_, ?_, ?_, ?_⟩, HB.out.trans ((((Below.refl w.heap.size W).setCell (p := ⟨w.heap.size + 1, 0, none⟩) (by simp) _).setCell (p := ⟨w.heap.size + 1 + 1, 0, none⟩) (by simp; omega) _).drew)⟩
            · rw [hS2.out]; exact (two_cells W _ _ hne _ _ (by rw [hc1]; rfl) (by rw [hc2]; rfl)).1
            · simpa [World.frozen?_setCell] using hf1
            · rw [hS2.out]; exact (two_cells W _ _ hne _ _ (by rw [hc1]; rfl) (by rw [hc2]; rfl)).2
            · simpa [World.frozen?_setCell] using hf2)
          exact fun j hj => by cases hj
        refine AllReady.cons (o := ({ dst := some 18, op := Op.load 25 (Operand.tmp 3), type := 25, pos := "tensor.go:113", after := #[], guard := none } : Oper)) rfl (fun K hK => ?_) ?_
        · go_simp
          refine hK _ _ ?_
          clear hK K
          try simp only [Act.put, List.setIfInBounds_toArray, List.set_cons_zero, List.set_cons_succ]
          refine wpAny_take (i := 5) (oi := ({ dst := some 20, op := Op.call { callee := Callee.builtin Builtin.max, args := #[Operand.tmp 18, Operand.tmp 19], argTypes := #[25, 25] }, type := 25, pos := "tensor.go:113", after := #[{ on := 3, ground := Ground.data }, { on := 4, ground := Ground.data }], guard := none } : Oper)) (v := ?_) rfl (by kernel_rfl) (by kernel_rfl) (by kernel_rfl) (fun _ _ _ h => h) (Or.inl ⟨by rfl, ?_⟩) ?_
          rotate_left
          · intro wS
            first
              | (go_simp; done)
              | (go_simp; with_reducible rfl)
          try simp only [Act.put, List.setIfInBounds_toArray, List.set_cons_zero, List.set_cons_succ]
          refine wpAny_ready (rs := [0]) (by kernel_rfl) (by simp) ?_
          refine AllReady.cons (o := ({ dst := some 15, op := Op.load 25 (Operand.tmp 2), type := 25, pos := "tensor.go:113", after := #[], guard := none } : Oper)) rfl (fun K hK => ?_) (fun j hj => by cases hj)
          go_simp
          refine hK _ _ ?_
          clear hK K
          try simp only [Act.put, List.setIfInBounds_toArray, List.set_cons_zero, List.set_cons_succ]
          refine wpAny_take (i := 2) (oi := ({ dst := some 17, op := Op.call { callee := Callee.builtin Builtin.min, args := #[Operand.tmp 15, Operand.tmp 16], argTypes := #[25, 25] }, type := 25, pos := "tensor.go:113", after := #[{ on := 0, ground := Ground.data }, { on := 1, ground := Ground.data }], guard := none } : Oper)) (v := ?_) rfl (by kernel_rfl) (by kernel_rfl) (by kernel_rfl) (fun _ _ _ h => h) (Or.inl ⟨by rfl, ?_⟩) ?_
          rotate_left
          · intro wS
            first
              | (go_simp; done)
              | (go_simp; with_reducible rfl)
          try simp only [Act.put, List.setIfInBounds_toArray, List.set_cons_zero, List.set_cons_succ]
          refine wpAny_ready (rs := [6]) (by kernel_rfl) (by simp) ?_
          refine AllReady.cons (o := ({ dst := none, op := Op.store 25 (Operand.tmp 2) (Operand.tmp 17), type := 0, pos := "tensor.go:113", after := #[{ on := 2, ground := Ground.data }, { on := 0, ground := Ground.phase }, { on := 1, ground := Ground.phase }, { on := 2, ground := Ground.phase }, { on := 3, ground := Ground.textOnly Departure.inlinedCapture }, { on := 4, ground := Ground.textOnly Departure.lateStores }, { on := 5, ground := Ground.textOnly Departure.lateStoresUnsure }], guard := none } : Oper)) rfl (fun K hK => ?_) (fun j hj => by cases hj)
          go_simp
          refine hK _ _ ?_
          clear hK K
          try simp only [Act.put, List.setIfInBounds_toArray, List.set_cons_zero, List.set_cons_succ]
          refine wpAny_ready (rs := [7]) (by kernel_rfl) (by simp) ?_
          refine AllReady.cons (o := ({ dst := none, op := Op.store 25 (Operand.tmp 3) (Operand.tmp 20), type := 0, pos := "tensor.go:113", after := #[{ on := 5, ground := Ground.data }, { on := 6, ground := Ground.chain }, { on := 0, ground := Ground.phase }, { on := 1, ground := Ground.phase }, { on := 2, ground := Ground.phase }, { on := 3, ground := Ground.phase }, { on := 4, ground := Ground.phase }, { on := 5, ground := Ground.phase }, { on := 6, ground := Ground.phase }], guard := none } : Oper)) rfl (fun K hK => ?_) (fun j hj => by cases hj)
          go_simp
          refine hK _ _ ?_
          clear hK K
          try simp only [Act.put, List.setIfInBounds_toArray, List.set_cons_zero, List.set_cons_succ]
          refine wpAny_done (by kernel_rfl) ?_ _
          show Exit.inBlock 1 _ Exit.normal _ _
          gi_wp2
          (
            refine ⟨(((KeepsOthers.setCell _ _ _).trans (KeepsOthers.setCell _ _ _)).trans (KeepsOthers.drew _)).from _, (((Below.refl w.heap.size W).setCell (p := ⟨w.heap.size + 1, 0, none⟩) (by simp) _).setCell (p := ⟨w.heap.size + 1 + 1, 0, none⟩) (by simp; omega) _).drew, ⟨?_, ?_, ?_, ?_⟩, HB.out.trans ((((Below.refl w.heap.size W).setCell (p := ⟨w.heap.size + 1, 0, none⟩) (by simp) _).setCell (p := ⟨w.heap.size + 1 + 1, 0, none⟩) (by simp; omega) _).drew)⟩
            · rw [hS2.out]; exact (two_cells W _ _ hne _ _ (by rw [hc1]; rfl) (by rw [hc2]; rfl)).1
            · simpa [World.frozen?_setCell] using hf1
            · rw [hS2.out]; exact (two_cells W _ _ hne _ _ (by rw [hc1]; rfl) (by rw [hc2]; rfl)).2
            · simpa [World.frozen?_setCell] using hf2)
        exact fun j hj => by cases hj
  case done =>
    rintro D ys W hD rfl ⟨⟨hc1, hf1, hc2, hf2⟩, hB⟩ hK
    obtain ⟨a, ha⟩ : ∃ a, (reachF (pairs zs zs.length)).1 = a := ⟨_, rfl⟩
    obtain ⟨b, hb⟩ : ∃ b, (reachF (pairs zs zs.length)).2 = b := ⟨_, rfl⟩
    rw [ha] at hc1
    rw [hb] at hc2
    have HA := Lib.hid ha
    have HBB := Lib.hid hb
    have HB := Lib.hid hB
    have HK := Lib.hid hK
    have HD := Lib.hid hD
    have hne : (⟨w.heap.size + 1, 0, none⟩ : Addr) ≠ ⟨w.heap.size + 1 + 1, 0, none⟩ := fun e => by have := congrArg Addr.block e; simp at this
    have HT := Lib.hid (two_cells W _ _ hne (.int .i8 a) (.int .i8 b) (by rw [hc1]; rfl) (by rw [hc2]; rfl))
    clear ha hb hB hK hD hB0 bL bH bN hI hreach hBt hne h22 h46 h53 hn h1
    gi_wp2
    gi_region
    all_goals gi_wp2
    all_goals
      have hk := ((((KeepsOthers.setCell W ⟨w.heap.size + 1, 0, none⟩ (.int .i8 a)).trans (KeepsOthers.setCell _ ⟨w.heap.size + 1 + 1, 0, none⟩ (.int .i8 b))).trans (KeepsOthers.drew _)).same D _ HK.out rfl)
      refine ⟨by simp, .inl ⟨_, _, rfl, run_takeDeferred hk, ?_⟩⟩
      have hc5 := cell_kept (W := ((W.setCell ⟨w.heap.size + 1, 0, none⟩ (.int .i8 a)).setCell ⟨w.heap.size + 1 + 1, 0, none⟩ (.int .i8 b)).drew) HT.out.1 (grownBy_putObj' _ D (.deferred none)) (fun r e => by cases e; exact ⟨_, hk, rfl⟩)
      have hc6 := cell_kept (W := ((W.setCell ⟨w.heap.size + 1, 0, none⟩ (.int .i8 a)).setCell ⟨w.heap.size + 1 + 1, 0, none⟩ (.int .i8 b)).drew) HT.out.2 (grownBy_putObj' _ D (.deferred none)) (fun r e => by cases e; exact ⟨_, hk, rfl⟩)
      refine ⟨.tuple #[.int .i8 a, .int .i8 b], ?_, by rw [HA.out, HBB.out], (((HB.out.setCell (p := ⟨w.heap.size + 1, 0, none⟩) (by simp) _).setCell (p := ⟨w.heap.size + 1 + 1, 0, none⟩) (by simp; omega) _).drew).trans (belowK_b (w := w) (Nat.le_refl _) _ D _ _ (by have := HD.out; simp at this; omega) hk rfl rfl)⟩
      simp [results, Try.f19, go_sem, hc5, hc6]
  case stop =>
    rintro D c pre W _ _ h _
    exact h.elim
end Go.Proofs.Ytkmcmaickopobaa.CSeq
