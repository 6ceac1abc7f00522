package slab_test

import (
	"slices"
	"testing"

	"stepwell/api"
	"stepwell/arena"
	"stepwell/graph"
	"stepwell/lot"
	"stepwell/run"
	"stepwell/sample"
	"stepwell/slab"
	"stepwell/tensor"
)

var one = api.Quant{Mult: 1}

func flat(a int) api.Node { return api.Node{Kind: api.Flat, A: a} }

func join(a, b int) api.Node {
	return api.Node{Kind: api.Join, A: a, B: b, Q: one, R: one, Lo: -128, Hi: 127}
}

func checkPlan(t *testing.T, l []api.Node, in api.Shape, want slab.Plan, wantAt int, wantErr api.Errno) {
	t.Helper()
	got, at, err := slab.Of(l, in)
	if !slices.Equal(got.Shapes, want.Shapes) || !slices.Equal(got.At, want.At) || got.Size != want.Size || at != wantAt || err != wantErr {
		t.Fatalf("Of(%+v, %+v) = %+v, %d, %d, want %+v, %d, %d", l, in, got, at, err, want, wantAt, wantErr)
	}
}

func checkEval(t *testing.T, l []api.Node, x, want api.Tensor, wantAt int, wantErr api.Errno) {
	t.Helper()
	got, at, err := slab.Eval(l, x)
	if !tensor.Same(got, want) || at != wantAt || err != wantErr {
		t.Fatalf("Eval(%+v, %+v) = %+v, %d, %d, want %+v, %d, %d", l, x, got, at, err, want, wantAt, wantErr)
	}
}

// P29.1: places written out.
func TestPlansByHand(t *testing.T) {
	check := func(l []api.Node, in api.Shape, size int, places ...int) {
		t.Helper()
		shapes, _, _ := graph.Shapes(l, in)
		checkPlan(t, l, in, slab.Plan{Shapes: shapes, At: places, Size: size}, len(l), api.OK)
	}
	two, most := api.Shape{H: 2, W: 1, C: 1}, api.Shape{H: 1, W: 1, C: 1024}
	check([]api.Node{flat(0)}, two, 4, 0, 2)
	check([]api.Node{flat(0), flat(1), flat(2), flat(3)}, two, 4, 0, 2, 0, 2, 0)
	check([]api.Node{flat(0), flat(0), flat(0)}, two, 4, 0, 2, 2, 2)
	check([]api.Node{flat(0), flat(1), flat(0)}, two, 6, 0, 2, 4, 2)
	check([]api.Node{flat(0), join(1, 1), join(1, 2)}, two, 6, 0, 2, 0, 4)
	// A value that is not used has a place at its own step, where it lies beside what lives longer.
	check([]api.Node{flat(0), flat(0), join(1, 1)}, two, 6, 0, 2, 4, 0)
	check([]api.Node{flat(0), flat(0), flat(0), flat(2), join(1, 4)}, two, 8, 0, 2, 4, 6, 0, 4)
	check([]api.Node{flat(0), flat(1), flat(2), flat(3), flat(4), flat(5), flat(6), flat(7)}, most, 2048, 0, 1024, 0, 1024, 0, 1024, 0, 1024, 0)
	check([]api.Node{flat(0), flat(0), flat(0), flat(0), join(1, 2), join(3, 4), join(5, 6), join(7, 0)}, most, 6*1024, 0, 1024, 2048, 3072, 4096, 5120, 1024, 2048, 1024)
	// Values of several sizes: 4, 4, 4, 16, 4, 4, 4, 4 and 2 numbers.
	check([]api.Node{
		{Kind: api.Act, A: 0, Q: one, Lo: 0, Hi: 4}, join(0, 1), {Kind: api.Pad, A: 1, P: 1}, {Kind: api.MaxPool, A: 3, K: 2, S: 2}, {Kind: api.AvgPool, A: 3, K: 2, S: 2},
		flat(2), flat(4), {Kind: api.Dense, A: 7, Out: 2, W: make([]int8, 8), Bias: make([]int32, 2), Q: one},
	}, api.Shape{H: 2, W: 2, C: 1}, 28, 0, 4, 8, 12, 0, 4, 4, 4, 0)
}

// P29.2: what goes out, written out.
func TestEvalByHand(t *testing.T) {
	x := api.Tensor{Shape: api.Shape{H: 2, W: 2, C: 1}, Data: []int8{1, -2, 3, 5}}
	row := func(l ...int8) api.Tensor { return api.Tensor{Shape: api.Shape{H: 1, W: 1, C: len(l)}, Data: l} }
	square := func(l ...int8) api.Tensor { return api.Tensor{Shape: x.Shape, Data: l} }
	l := []api.Node{
		{Kind: api.Act, A: 0, Q: one, Lo: 0, Hi: 4},
		join(0, 1),
		{Kind: api.Pad, A: 1, P: 1, ZA: -4},
		{Kind: api.MaxPool, A: 3, K: 2, S: 2},
		{Kind: api.AvgPool, A: 2, K: 2, S: 1},
		flat(4),
		join(6, 6),
		{Kind: api.Dense, A: 7, Out: 2, ZA: 1, W: []int8{1, 2, 3, 4, -1, 0, 0, 1}, Bias: []int32{1, 0}, Q: one, Lo: -128, Hi: 127},
	}
	checkEval(t, l[:1], x, square(1, 0, 3, 4), 1, api.OK)
	checkEval(t, l[:2], x, square(2, -2, 6, 9), 2, api.OK)
	checkEval(t, l[:3], x, api.Tensor{Shape: api.Shape{H: 4, W: 4, C: 1}, Data: []int8{-4, -4, -4, -4, -4, 1, 0, -4, -4, 3, 4, -4, -4, -4, -4, -4}}, 3, api.OK)
	checkEval(t, l[:4], x, square(1, 0, 3, 4), 4, api.OK)
	checkEval(t, l[:5], x, row(4), 5, api.OK)
	checkEval(t, l[:6], x, row(1, 0, 3, 4), 6, api.OK)
	checkEval(t, l[:7], x, row(2, 0, 6, 8), 7, api.OK)
	checkEval(t, l, x, row(1+1-2+15+28, -1+7), 8, api.OK)
}

// elems is how many numbers there are of each of some shapes.
func elems(l []api.Shape) []int {
	var sizes []int
	for _, s := range l {
		sizes = append(sizes, s.H*s.W*s.C)
	}
	return sizes
}

// P29.1, P29.3: blocks of nodes of all kinds; what a node uses and what it computes lie beside each other.
func TestPlans(t *testing.T) {
	lot.Blocks(func(l []api.Node, shapes []api.Shape, x api.Tensor) {
		sizes := elems(shapes)
		at, size, _ := arena.Place(sizes, graph.Last(l))
		checkPlan(t, l, x.Shape, slab.Plan{Shapes: shapes, At: at, Size: size}, len(l), api.OK)
		p, _, _ := slab.Of(l, x.Shape)
		for i, n := range l {
			whose := make([]int, p.Size)
			used := []int{n.A, i + 1}
			if n.Kind == api.Join && n.B != n.A {
				used = append(used, n.B)
			}
			for _, v := range used {
				for j := range sizes[v] {
					whose[p.At[v]+j]++
				}
			}
			if slices.Max(whose) > 1 {
				t.Fatalf("node %d of %+v computes where a value lies that it uses: %+v", i, l, p)
			}
		}
	})
}

// within is what goes out of a block, with all values in one buffer by a plan: it has something else in it at first.
func within(p slab.Plan, l []api.Node, x api.Tensor) api.Tensor {
	buffer := slices.Repeat([]int8{99}, p.Size)
	value := func(i int) api.Tensor {
		return api.Tensor{Shape: p.Shapes[i], Data: buffer[p.At[i] : p.At[i]+elems(p.Shapes)[i]]}
	}
	copy(value(0).Data, x.Data)
	for i, n := range l {
		var b api.Tensor
		if n.Kind == api.Join {
			b = value(n.B)
		}
		v, _ := run.Node(n, value(n.A), b)
		copy(value(i+1).Data, v.Data)
	}
	return value(len(l))
}

// P29.2: what goes out is that of graph, for which a buffer by the plan is enough; it cannot grow into others.
func TestEval(t *testing.T) {
	ran := map[int]int{}
	lot.Blocks(func(l []api.Node, shapes []api.Shape, x api.Tensor) {
		want, at, err := graph.Eval(l, x)
		if at != len(l) || err != api.OK {
			t.Fatalf("graph tells %d, %d of %+v", at, err, l)
		}
		checkEval(t, l, x, want, at, err)
		got, _, _ := slab.Eval(l, x)
		if cap(got.Data) != len(got.Data) {
			t.Fatalf("what goes out has %d numbers behind its end", cap(got.Data)-len(got.Data))
		}
		p, _, _ := slab.Of(l, x.Shape)
		if !tensor.Same(within(p, l, x), want) {
			t.Fatalf("the buffer of %+v is not enough for %+v", p, l)
		}
		for _, n := range l {
			ran[n.Kind]++
		}
	})
	if len(ran) != 9 {
		t.Errorf("only kinds %v were executed", ran)
	}
}

// P29.1, P29.2: what is wrong with a block or with what comes into it.
func TestWrongBlocks(t *testing.T) {
	told := map[api.Errno]int{}
	lot.WrongBlocks(func(l []api.Node, x api.Tensor, at int, err api.Errno) {
		checkPlan(t, l, x.Shape, slab.Plan{}, at, err)
		checkEval(t, l, x, api.Tensor{}, at, err)
		told[err]++
	})
	for _, err := range []api.Errno{api.ErrShape, api.ErrEmpty, api.ErrFull, api.ErrKind, api.ErrArg, api.ErrQuant, api.ErrValue, api.ErrWeights} {
		if told[err] == 0 {
			t.Errorf("only %v was told", told)
		}
	}
	for _, l := range [][]api.Node{nil, {flat(0)}, {flat(1)}, {{Kind: -1}}, slices.Repeat([]api.Node{flat(0)}, 9)} {
		for _, x := range sample.WrongTensors() {
			checkEval(t, l, x, api.Tensor{}, -1, api.ErrShape)
		}
	}
	s := api.Shape{H: 4, W: 4, C: 2}
	for _, l := range [][]api.Node{{flat(0), join(0, 1)}, {flat(0), join(1, 0)}, {flat(0), {Kind: api.MaxPool, A: 1, K: 2, S: 1}}} {
		checkPlan(t, l, s, slab.Plan{}, 1, api.ErrShape)
		checkEval(t, l, sample.Tensor(s), api.Tensor{}, 1, api.ErrShape)
	}
}

// Rule 2: what is passed stays as it is, up to its capacity, and shares nothing with what is told.
func TestNothingIsShared(t *testing.T) {
	lot.Blocks(func(l []api.Node, shapes []api.Shape, right api.Tensor) {
		w, x := lot.Wide(l), right
		x.Data = sample.Wide(right.Data)
		want, _, _ := graph.Eval(l, right)
		first, _, _ := slab.Eval(w, x)
		second, _, _ := slab.Eval(w, x)
		slab.Of(w, x.Shape)
		clear(first.Data)
		if !lot.Kept(w, l) || !slices.Equal(x.Data[:len(x.Data)+3], sample.Wide(right.Data)[:len(x.Data)+3]) {
			t.Fatalf("what was passed for %+v changed", l)
		}
		clear(x.Data)
		lot.Forget(w)
		if !tensor.Same(second, want) {
			t.Fatalf("what goes out of %+v changed with what was passed", l)
		}
	})
	l, s := []api.Node{flat(0), flat(1)}, api.Shape{H: 2, W: 3, C: 1}
	want, _, _ := slab.Of(l, s)
	p, _, _ := slab.Of(l, s)
	clear(p.Shapes[:cap(p.Shapes)])
	clear(p.At[:cap(p.At)])
	checkPlan(t, l, s, want, 2, api.OK)
}

// P1, rule 6: nodes whose fields are all far away.
func TestFarNodes(t *testing.T) {
	s := api.Shape{H: 2, W: 3, C: 1}
	for _, far := range sample.Far() {
		for kind := -1; kind <= 10; kind++ {
			l := []api.Node{flat(0), {Kind: kind, A: far, B: far, K: far, S: far, P: far, Out: far, Q: api.Quant{Mult: 1, Shift: far}}}
			_, at, err := graph.Shapes(l, s)
			checkPlan(t, l, s, slab.Plan{}, at, err)
			checkEval(t, l, sample.Tensor(s), api.Tensor{}, at, err)
		}
	}
}
