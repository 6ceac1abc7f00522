package act_test

import (
	"math"
	"slices"
	"testing"

	"stepwell/act"
	"stepwell/api"
	"stepwell/fix"
	"stepwell/sample"
	"stepwell/tensor"
)

const (
	min32 = math.MinInt32
	max32 = math.MaxInt32
)

// wide is limits that no number leaves.
var wide = api.Node{Q: api.Quant{Mult: 1}, Lo: -128, Hi: 127}

func check(t *testing.T, call string, got api.Tensor, err api.Errno, want api.Tensor, wantErr api.Errno) {
	t.Helper()
	if err != wantErr || got.Shape != want.Shape || !slices.Equal(got.Data, want.Data) {
		t.Fatalf("%s = %+v, %d, want %+v, %d", call, got, err, want, wantErr)
	}
}

// nodes visits nodes with all valid scales, with several zeros and limits.
func nodes(visit func(n api.Node)) {
	for _, q := range sample.Scales() {
		for _, reach := range sample.Reaches() {
			for _, zero := range []int8{-128, -1, 0, 1, 55, 127} {
				visit(api.Node{Q: q, ZA: zero, Lo: reach[0], Hi: reach[1]})
			}
		}
	}
}

// wrongNodes visits nodes whose Q is invalid, also where 0 does not lie between Lo and Hi; their R is valid.
func wrongNodes(visit func(n api.Node)) {
	for _, q := range sample.WrongScales() {
		for _, reach := range [][2]int8{{-128, 127}, {50, 100}, {-9, -3}, {9, 3}} {
			visit(api.Node{Q: q, R: api.Quant{Mult: 1}, ZA: 3, Lo: reach[0], Hi: reach[1]})
		}
	}
}

// eachNumber visits all numbers of 8 bits, from the least to the greatest.
func eachNumber(visit func(v int8)) {
	for v := math.MinInt8; v <= math.MaxInt8; v++ {
		visit(int8(v))
	}
}

// P21.1: numbers written out.
func TestOneByHand(t *testing.T) {
	one, half := api.Quant{Mult: 1}, api.Quant{Mult: 1 << 30, Shift: 31, Zero: 3}
	for _, c := range []struct {
		v    int8
		n    api.Node
		want int8
	}{
		{-5, api.Node{Q: one, Lo: 0, Hi: 127}, 0}, {5, api.Node{Q: one, Lo: 0, Hi: 127}, 5}, {99, api.Node{Q: one, Lo: 0, Hi: 6}, 6}, {6, api.Node{Q: one, Lo: 0, Hi: 6}, 6}, {0, api.Node{Q: one}, 0}, {7, api.Node{Q: one}, 0},
		{11, api.Node{Q: half, Lo: -128, Hi: 127}, 9}, {-11, api.Node{Q: half, Lo: -128, Hi: 127}, -3}, {11, api.Node{Q: half, ZA: 2, Lo: -128, Hi: 127}, 8}, {11, api.Node{Q: half, ZA: -2, Lo: -128, Hi: 127}, 10},
		// The difference of two numbers of 8 bits has more of them.
		{127, api.Node{Q: one, ZA: -128, Lo: -128, Hi: 127}, 127}, {-128, api.Node{Q: one, ZA: 127, Lo: -128, Hi: 127}, -128}, {127, api.Node{Q: half, ZA: -128, Lo: -128, Hi: 127}, 127},
		{127, api.Node{Q: api.Quant{Mult: 1, Shift: 2, Zero: 1}, ZA: -128, Lo: -128, Hi: 127}, 65}, {-128, api.Node{Q: api.Quant{Mult: 1, Shift: 2, Zero: 1}, ZA: 127, Lo: -128, Hi: 127}, -63},
		{127, api.Node{Q: api.Quant{Mult: max32, Zero: 5}, ZA: -128, Lo: -7, Hi: 9}, 9}, {-128, api.Node{Q: api.Quant{Mult: max32, Zero: 5}, ZA: 127, Lo: -7, Hi: 9}, -7},
		// Zero is what ZA becomes, and the limits hold for it too.
		{50, api.Node{Q: api.Quant{Mult: 77, Shift: 3, Zero: -4}, ZA: 50, Lo: -128, Hi: 127}, -4}, {50, api.Node{Q: api.Quant{Mult: 77, Shift: 3, Zero: -4}, ZA: 50, Lo: 0, Hi: 127}, 0},
		// A Lo above Hi: what is not below Lo is above Hi.
		{3, api.Node{Q: one, Lo: 4, Hi: -4}, 4}, {4, api.Node{Q: one, Lo: 4, Hi: -4}, -4}, {-9, api.Node{Q: one, Lo: 4, Hi: -4}, 4},
		// R and ZB are those of a second number.
		{3, api.Node{Q: one, R: api.Quant{Mult: 9, Zero: 9}, ZB: 9, Lo: -128, Hi: 127}, 3},
	} {
		if got := act.One(c.v, c.n); got != c.want {
			t.Errorf("One(%d, %+v) = %d, want %d", c.v, c.n, got, c.want)
		}
	}
}

// P21.1, P21.2: all numbers.
func TestOneAndTable(t *testing.T) {
	nodes(func(n api.Node) {
		var want [256]int8
		i := 0
		eachNumber(func(v int8) {
			want[i] = fix.Held(int32(v)-int32(n.ZA), n.Q, n.Lo, n.Hi)
			if got := act.One(v, n); got != want[i] {
				t.Fatalf("One(%d, %+v) = %d, want %d", v, n, got, want[i])
			}
			i++
		})
		if got, err := act.Table(n); got != want || err != api.OK {
			t.Fatalf("Table(%+v) = %d, %d, want %d", n, got, err, want)
		}
	})
}

// P21.1, P21.2, P21.3: a wrong scale.
func TestWrongScales(t *testing.T) {
	x := sample.Tensor(api.Shape{H: 2, W: 3, C: 4})
	wrongNodes(func(n api.Node) {
		eachNumber(func(v int8) {
			if got := act.One(v, n); got != 0 {
				t.Fatalf("One(%d, %+v) = %d, want 0", v, n, got)
			}
		})
		if got, err := act.Table(n); got != [256]int8{} || err != api.ErrQuant {
			t.Fatalf("Table(%+v) = %d, %d, want zeros, ErrQuant", n, got, err)
		}
		got, err := act.Of(x, n)
		check(t, "Of", got, err, api.Tensor{}, api.ErrQuant)
		got, err = act.Put(sums(x), n)
		check(t, "Put", got, err, api.Tensor{}, api.ErrQuant)
	})
}

// P21.1: all sorts of tensors.
func TestOf(t *testing.T) {
	x := api.Tensor{Shape: api.Shape{H: 1, W: 3, C: 1}, Data: []int8{-5, 4, 99}}
	got, err := act.Of(x, api.Node{Q: api.Quant{Mult: 1}, Hi: 6})
	check(t, "Of", got, err, api.Tensor{Shape: x.Shape, Data: []int8{0, 4, 6}}, api.OK)
	i := 0
	tensors := sample.Tensors()
	nodes(func(n api.Node) {
		x := tensors[i%len(tensors)]
		i++
		want := api.Tensor{Shape: x.Shape}
		for _, v := range x.Data {
			want.Data = append(want.Data, act.One(v, n))
		}
		got, err := act.Of(x, n)
		check(t, "Of", got, err, want, api.OK)
	})
}

// table is one that no node has: neighbours differ, and it neither rises nor falls.
func table() [256]int8 {
	return [256]int8(sample.Numbers(256))
}

// P21.2: tables written out.
func TestByByHand(t *testing.T) {
	ends := [256]int8{0: 7, 1: 8, 127: 9, 128: 10, 129: 11, 254: 12, 255: 13}
	x := api.Tensor{Shape: api.Shape{H: 1, W: 2, C: 4}, Data: []int8{-128, -127, -1, 0, 1, 126, 127, 2}}
	got, err := act.By(x, ends)
	check(t, "By", got, err, api.Tensor{Shape: x.Shape, Data: []int8{7, 8, 9, 10, 11, 12, 13, 0}}, api.OK)
}

// P21.2: all sorts of tensors, by a table that no node has.
func TestBy(t *testing.T) {
	l := table()
	for _, x := range sample.Tensors() {
		want := api.Tensor{Shape: x.Shape}
		for _, v := range x.Data {
			want.Data = append(want.Data, l[int(v)+128])
		}
		got, err := act.By(x, l)
		check(t, "By", got, err, want, api.OK)
	}
}

// P21.1, P21.2: a wrong tensor comes before a wrong scale.
func TestWrongTensors(t *testing.T) {
	for _, x := range sample.WrongTensors() {
		for _, n := range []api.Node{wide, {}} {
			got, err := act.Of(x, n)
			check(t, "Of a wrong tensor", got, err, api.Tensor{}, api.ErrShape)
		}
		for _, l := range [][256]int8{table(), {}} {
			got, err := act.By(x, l)
			check(t, "By a wrong tensor", got, err, api.Tensor{}, api.ErrShape)
		}
	}
}

// sums is the numbers of a tensor, valid or not, with others between them that only 32 bits have.
func sums(x api.Tensor) api.Acc {
	a := api.Acc{Shape: x.Shape}
	for i, v := range x.Data {
		a.Data = append(a.Data, int32(v)<<(i*5%25))
	}
	return a
}

// P21.3: sums written out; ZA is not what they are counted from.
func TestPutByHand(t *testing.T) {
	s := api.Shape{H: 1, W: 2, C: 3}
	a := api.Acc{Shape: s, Data: []int32{1 << 20, 3, -4, min32, max32, 0}}
	for _, c := range []struct {
		n    api.Node
		want []int8
	}{
		{wide, []int8{127, 3, -4, -128, 127, 0}},
		{api.Node{Q: api.Quant{Mult: 1}, Hi: 6}, []int8{6, 3, 0, 0, 6, 0}},
		{api.Node{Q: api.Quant{Mult: 1}, ZA: 100, Hi: 6}, []int8{6, 3, 0, 0, 6, 0}},
		{api.Node{Q: api.Quant{Mult: 1, Shift: 1, Zero: 10}, ZA: -128, Lo: -20, Hi: 20}, []int8{20, 12, 8, -20, 20, 10}},
		{api.Node{Q: api.Quant{Mult: 100, Shift: 31, Zero: -1}, Lo: -128, Hi: 127}, []int8{-1, -1, -1, -101, 99, -1}},
	} {
		got, err := act.Put(a, c.n)
		check(t, "Put", got, err, api.Tensor{Shape: s, Data: c.want}, api.OK)
	}
}

// P21.3: sums of all sorts of shapes.
func TestPut(t *testing.T) {
	i := 0
	tensors := sample.Tensors()
	nodes(func(n api.Node) {
		a := sums(tensors[i%len(tensors)])
		i++
		got, err := act.Put(a, n)
		check(t, "Put", got, err, api.Tensor{Shape: a.Shape, Data: fix.All(a.Data, n.Q, n.Lo, n.Hi)}, api.OK)
		if !tensor.Right(got) {
			t.Fatalf("Put tells a wrong tensor of %+v", got.Shape)
		}
	})
}

// P21.3: a wrong shape, or another number of sums, comes before a wrong scale.
func TestWrongSums(t *testing.T) {
	for _, x := range sample.WrongTensors() {
		for _, n := range []api.Node{wide, {}} {
			got, err := act.Put(sums(x), n)
			check(t, "Put of wrong sums", got, err, api.Tensor{}, api.ErrShape)
		}
	}
	a := api.Acc{Shape: api.Shape{H: 1, W: 1, C: 2}, Data: make([]int32, 1, 2)}
	got, err := act.Put(a, wide)
	check(t, "Put of a sum in the capacity", got, err, api.Tensor{}, api.ErrShape)
}

// P21.4
func TestByTheTable(t *testing.T) {
	all := sample.Tensor(api.Shape{H: 16, W: 16, C: 4})
	eachNumber(func(v int8) {
		if !slices.Contains(all.Data, v) {
			t.Fatalf("the tensor lacks %d", v)
		}
	})
	nodes(func(n api.Node) {
		l, err := act.Table(n)
		if err != api.OK {
			t.Fatalf("Table(%+v): %d", n, err)
		}
		want, wantErr := act.Of(all, n)
		got, err := act.By(all, l)
		check(t, "By the table", got, err, want, wantErr)
	})
	for _, x := range append(sample.Tensors(), sample.WrongTensors()...) {
		l, _ := act.Table(wide)
		want, wantErr := act.Of(x, wide)
		got, err := act.By(x, l)
		check(t, "By the table", got, err, want, wantErr)
		if err == api.OK {
			check(t, "By numbers as they are", got, err, x, api.OK)
		}
	}
}

// P21.1 to P21.3: the other fields of a node do not matter.
func TestOtherFields(t *testing.T) {
	x := sample.Tensor(api.Shape{H: 2, W: 3, C: 4})
	n := api.Node{Q: api.Quant{Mult: 3, Shift: 2, Zero: 7}, ZA: 4, Lo: -100, Hi: 99}
	of, _ := act.Of(x, n)
	put, _ := act.Put(sums(x), n)
	l, _ := act.Table(n)
	for _, far := range append([]int{0, 1, 3}, sample.Far()...) {
		n.Kind, n.A, n.B, n.K, n.S, n.P, n.Out = far, far, far, far, far, far, far
		n.W, n.Bias = sample.Numbers(9), []int32{max32}
		n.R = api.Quant{Mult: int32(far), Shift: far, Zero: 9}
		n.ZB++
		got, err := act.Of(x, n)
		check(t, "Of", got, err, of, api.OK)
		got, err = act.Put(sums(x), n)
		check(t, "Put", got, err, put, api.OK)
		if other, err := act.Table(n); other != l || err != api.OK {
			t.Fatalf("Table(%+v) = %d, %d, want %d", n, other, err, l)
		}
	}
}

// Rule 2: what is passed stays as it is, up to its capacity, and shares nothing with a result, nor do two results.
func TestNothingIsShared(t *testing.T) {
	n := wide
	n.W, n.Bias = []int8{5}, []int32{6}
	l, _ := act.Table(n)
	for name, of := range map[string]func(x api.Tensor) (api.Tensor, api.Errno){
		"Of": func(x api.Tensor) (api.Tensor, api.Errno) { return act.Of(x, n) },
		"By": func(x api.Tensor) (api.Tensor, api.Errno) { return act.By(x, l) },
	} {
		x := sample.Tensor(api.Shape{H: 1, W: 1, C: 9})
		kept := slices.Clone(x.Data)
		x.Data = sample.Wide(x.Data)
		first, _ := of(x)
		second, _ := of(x)
		clear(first.Data[:cap(first.Data)])
		if !slices.Equal(x.Data[:12], append(slices.Clone(kept), 101, 102, 103)) {
			t.Errorf("%s or its result changed what was passed: %d", name, x.Data[:12])
		}
		clear(x.Data)
		if !slices.Equal(second.Data, kept) {
			t.Errorf("a result of %s changed with another list: %d", name, second.Data)
		}
	}
	if n.W[0] != 5 || n.Bias[0] != 6 {
		t.Error("the node changed")
	}
}

// Rule 2, for sums.
func TestNoSumsAreShared(t *testing.T) {
	whole := []int32{5, 6, 7, 8, 9}
	a := api.Acc{Shape: api.Shape{H: 1, W: 1, C: 3}, Data: whole[:3]}
	first, _ := act.Put(a, wide)
	second, _ := act.Put(a, wide)
	clear(first.Data[:cap(first.Data)])
	if !slices.Equal(whole, []int32{5, 6, 7, 8, 9}) {
		t.Errorf("the sums became %d", whole)
	}
	clear(whole)
	if !slices.Equal(second.Data, []int8{5, 6, 7}) {
		t.Errorf("a result changed with another list: %d", second.Data)
	}
}
