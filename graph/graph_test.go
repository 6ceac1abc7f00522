package graph_test

import (
	"math"
	"slices"
	"testing"

	"stepwell/api"
	"stepwell/graph"
	"stepwell/kinds"
	"stepwell/lot"
	"stepwell/run"
	"stepwell/sample"
	"stepwell/tensor"
)

var (
	one  = api.Quant{Mult: 1}
	half = api.Quant{Mult: 1, Shift: 1, Zero: 1}
)

// value is a value of a block, from those that it needs, and no other.
func value(l []api.Node, x api.Tensor, i int) api.Tensor {
	if i == 0 {
		return x
	}
	n := l[i-1]
	var b api.Tensor
	if n.Kind == api.Join {
		b = value(l, x, n.B)
	}
	v, _ := run.Node(n, value(l, x, n.A), b)
	return v
}

func checkShapes(t *testing.T, l []api.Node, in api.Shape, want []api.Shape, wantAt int, wantErr api.Errno) {
	t.Helper()
	got, at, err := graph.Shapes(l, in)
	if !slices.Equal(got, want) || at != wantAt || err != wantErr {
		t.Fatalf("Shapes(%+v, %+v) = %+v, %d, %d, want %+v, %d, %d", l, in, got, at, err, want, wantAt, wantErr)
	}
}

func checkValues(t *testing.T, l []api.Node, x api.Tensor, want []api.Tensor, wantAt int, wantErr api.Errno) {
	t.Helper()
	got, at, err := graph.Values(l, x)
	if !slices.EqualFunc(got, want, tensor.Same) || at != wantAt || err != wantErr {
		t.Fatalf("Values(%+v, %+v) = %+v, %d, %d, want %+v, %d, %d", l, x, got, at, err, want, wantAt, wantErr)
	}
	var last api.Tensor
	if len(want) > 0 {
		last = want[len(want)-1]
	}
	out, at, err := graph.Eval(l, x)
	if !tensor.Same(out, last) || at != wantAt || err != wantErr {
		t.Fatalf("Eval(%+v, %+v) = %+v, %d, %d, want %+v, %d, %d", l, x, out, at, err, last, wantAt, wantErr)
	}
}

// checkWrong tells whether all functions that execute a block tell the same of it.
func checkWrong(t *testing.T, l []api.Node, in api.Shape, at int, err api.Errno) {
	t.Helper()
	checkShapes(t, l, in, nil, at, err)
	checkValues(t, l, sample.Tensor(in), nil, at, err)
}

func checkLast(t *testing.T, l []api.Node, want ...int) {
	t.Helper()
	if got := graph.Last(l); !slices.Equal(got, want) {
		t.Fatalf("Last(%+v) = %d, want %d", l, got, want)
	}
}

// P27.1, P27.2: a block of which all values are written out.
func TestBlockByHand(t *testing.T) {
	x := api.Tensor{Shape: api.Shape{H: 2, W: 2, C: 1}, Data: []int8{1, -2, 3, 5}}
	l := []api.Node{
		{Kind: api.Act, A: 0, Q: one, Lo: 0, Hi: 4},
		{Kind: api.Join, A: 0, B: 1, Q: one, R: api.Quant{Mult: 1, Shift: 1}, Lo: -128, Hi: 127},
		{Kind: api.Pad, A: 1, P: 1, ZA: -4},
		{Kind: api.MaxPool, A: 3, K: 2, S: 2},
		{Kind: api.Conv, A: 3, K: 2, S: 2, Out: 1, W: []int8{1, 1, 1, 1}, Bias: []int32{10}, Q: one, Lo: -9, Hi: 9},
		{Kind: api.AvgPool, A: 2, K: 2, S: 1},
		{Kind: api.Flat, A: 4},
		{Kind: api.Dense, A: 7, Out: 2, ZA: 1, W: []int8{1, 2, 3, 4, -1, 0, 0, 1}, Bias: []int32{1, 0}, Q: half, Lo: -128, Hi: 127},
	}
	row := func(l ...int8) api.Tensor { return api.Tensor{Shape: api.Shape{H: 1, W: 1, C: len(l)}, Data: l} }
	square := func(l ...int8) api.Tensor { return api.Tensor{Shape: x.Shape, Data: l} }
	want := []api.Tensor{
		x,
		square(1, 0, 3, 4),
		// Half of 1 and of 3 is rounded away from 0.
		square(2, -2, 5, 7),
		{Shape: api.Shape{H: 4, W: 4, C: 1}, Data: []int8{-4, -4, -4, -4, -4, 1, 0, -4, -4, 3, 4, -4, -4, -4, -4, -4}},
		square(1, 0, 3, 4),
		square(-1, -2, 1, 2),
		row(3),
		row(1, 0, 3, 4),
		row(10, 3),
	}
	checkValues(t, l, x, want, 8, api.OK)
	var shapes []api.Shape
	for i, v := range want {
		shapes = append(shapes, v.Shape)
		if i > 0 {
			checkShapes(t, l[:i], x.Shape, shapes, i, api.OK)
			checkValues(t, l[:i], x, want[:i+1], i, api.OK)
		}
	}
	checkLast(t, l, 2, 3, 6, 5, 7, 0, 0, 8, 9)
}

// P27.1, P27.2: blocks of nodes of all kinds, with each value computed from those that it needs alone.
func TestBlocks(t *testing.T) {
	ran := map[int]int{}
	lot.Blocks(func(l []api.Node, shapes []api.Shape, x api.Tensor) {
		var want []api.Tensor
		for i := range len(l) + 1 {
			want = append(want, value(l, x, i))
			if want[i].Shape != shapes[i] {
				t.Fatalf("value %d has the shape %+v, want %+v", i, want[i].Shape, shapes[i])
			}
		}
		checkShapes(t, l, x.Shape, shapes, len(l), api.OK)
		checkValues(t, l, x, want, len(l), api.OK)
		for _, n := range l {
			ran[n.Kind]++
		}
	})
	if len(ran) != 9 {
		t.Errorf("only kinds %v were executed", ran)
	}
}

// P27.1, P27.2: what is wrong with the input or the number of nodes comes first; then the first node of which something
// is wrong is told, with the first that is wrong with it.
func TestWrongBlocks(t *testing.T) {
	told := map[api.Errno]int{}
	lot.WrongBlocks(func(l []api.Node, x api.Tensor, at int, err api.Errno) {
		checkShapes(t, l, x.Shape, nil, at, err)
		checkValues(t, l, x, nil, at, err)
		told[err]++
	})
	for _, err := range []api.Errno{api.ErrShape, api.ErrEmpty, api.ErrFull, api.ErrKind, api.ErrArg, api.ErrQuant, api.ErrValue, api.ErrWeights} {
		if told[err] == 0 {
			t.Errorf("only %v was told", told)
		}
	}
}

// P27.1, P27.2: an invalid tensor comes before what is wrong with the number of nodes, or with a node; and as many
// nodes as there may be.
func TestWrongTensors(t *testing.T) {
	for _, many := range []int{0, 1, 8, 9, 10, 300} {
		for _, n := range []api.Node{{Kind: api.Flat}, {Kind: -1, A: -1}} {
			l := slices.Repeat([]api.Node{n}, many)
			for _, x := range sample.WrongTensors() {
				checkValues(t, l, x, nil, -1, api.ErrShape)
			}
		}
	}
	for _, s := range sample.Shapes() {
		for many := 1; many <= api.MaxNodes; many++ {
			_, at, err := graph.Shapes(slices.Repeat([]api.Node{{Kind: api.Flat}}, many), s)
			if at != many || err != api.OK {
				t.Errorf("Shapes of %d nodes = %d, %d", many, at, err)
			}
		}
	}
}

// P27.1: values that exist, but whose shapes a node cannot take.
func TestWrongShapes(t *testing.T) {
	s := api.Shape{H: 4, W: 4, C: 2}
	flat, join := api.Node{Kind: api.Flat}, api.Node{Kind: api.Join, Q: one, R: one}
	with := func(n api.Node, a, b int) api.Node {
		n.A, n.B = a, b
		return n
	}
	checkWrong(t, []api.Node{flat, with(join, 0, 1)}, s, 1, api.ErrShape)
	checkWrong(t, []api.Node{flat, with(join, 1, 0)}, s, 1, api.ErrShape)
	checkShapes(t, []api.Node{flat, with(join, 1, 1), with(join, 0, 0)}, s, []api.Shape{s, {H: 1, W: 1, C: 32}, {H: 1, W: 1, C: 32}, s}, 3, api.OK)
	pool := api.Node{Kind: api.MaxPool, K: 3, S: 1}
	checkWrong(t, []api.Node{pool, with(pool, 1, 0)}, s, 1, api.ErrShape)
	checkWrong(t, []api.Node{flat, with(pool, 1, 0)}, s, 1, api.ErrShape)
	checkShapes(t, []api.Node{pool, pool}, s, []api.Shape{s, {H: 2, W: 2, C: 2}, {H: 2, W: 2, C: 2}}, 2, api.OK)
	border := api.Node{Kind: api.Pad, P: 4}
	checkWrong(t, []api.Node{border, with(border, 1, 0)}, s, 1, api.ErrShape)
	dense := api.Node{Kind: api.Dense, Out: 1, W: make([]int8, 8), Bias: make([]int32, 1), Q: one}
	checkShapes(t, []api.Node{pool, with(dense, 1, 0)}, s, []api.Shape{s, {H: 2, W: 2, C: 2}, {H: 1, W: 1, C: 1}}, 2, api.OK)
	checkWrong(t, []api.Node{pool, dense}, s, 1, api.ErrWeights)
	// The first node has no earlier value but the input; the last one has all of them.
	checkWrong(t, []api.Node{with(flat, 1, 0)}, s, 0, api.ErrValue)
	chain := []api.Node{flat}
	for i := 1; i < api.MaxNodes; i++ {
		chain = append(chain, with(join, i, i))
	}
	checkShapes(t, chain, s, append([]api.Shape{s}, slices.Repeat([]api.Shape{{H: 1, W: 1, C: 32}}, api.MaxNodes)...), api.MaxNodes, api.OK)
}

// P27.3: uses written out.
func TestLastByHand(t *testing.T) {
	flat := func(a int) api.Node { return api.Node{Kind: api.Flat, A: a} }
	join := func(a, b int) api.Node { return api.Node{Kind: api.Join, A: a, B: b} }
	checkLast(t, nil, 1)
	checkLast(t, []api.Node{}, 1)
	checkLast(t, []api.Node{flat(0)}, 1, 2)
	checkLast(t, []api.Node{flat(0), flat(0)}, 2, 0, 3)
	checkLast(t, []api.Node{flat(0), flat(1), flat(2)}, 1, 2, 3, 4)
	checkLast(t, []api.Node{flat(0), flat(1), flat(0)}, 3, 2, 0, 4)
	checkLast(t, []api.Node{flat(0), join(0, 1)}, 2, 2, 3)
	checkLast(t, []api.Node{flat(0), join(1, 0), flat(2)}, 2, 2, 3, 4)
	checkLast(t, []api.Node{flat(0), join(1, 1), flat(0)}, 3, 2, 0, 4)
	// What is not an operand is not used, and a kind that there is not has an A.
	checkLast(t, []api.Node{flat(0), {Kind: api.Act, A: 1, B: 0}, {Kind: api.Pad, A: 2, B: 1}}, 1, 2, 3, 4)
	checkLast(t, []api.Node{flat(0), {Kind: 99, A: 0, B: 1}, {Kind: -1, A: 0}}, 3, 0, 0, 4)
	// Nodes that use what is not there yet are ignored.
	checkLast(t, []api.Node{flat(1)}, 0, 2)
	checkLast(t, []api.Node{flat(0), flat(2), flat(3)}, 1, 0, 0, 4)
	checkLast(t, []api.Node{flat(0), join(0, 2), join(1, 3)}, 1, 0, 0, 4)
	checkLast(t, []api.Node{flat(0), join(2, 0), join(3, 1)}, 1, 0, 0, 4)
	checkLast(t, []api.Node{flat(-1), flat(2), join(0, -1), join(-1, 0)}, 0, 0, 0, 0, 5)
	for _, far := range sample.Far() {
		checkLast(t, []api.Node{flat(far), join(far, 0), join(0, far)}, 0, 0, 0, 4)
	}
}

// P27.3: for each value the last of all nodes that use it, of more nodes than a block may have too.
func TestLast(t *testing.T) {
	check := func(l []api.Node) {
		t.Helper()
		want := make([]int, len(l)+1)
		for v := range want {
			for i, n := range l {
				taken := n.A == v || n.Kind == api.Join && n.B == v
				there := n.A >= 0 && n.A <= i && (n.Kind != api.Join || n.B >= 0 && n.B <= i)
				if taken && there {
					want[v] = i + 1
				}
			}
		}
		want[len(l)] = len(l) + 1
		checkLast(t, l, want...)
	}
	lot.Blocks(func(l []api.Node, shapes []api.Shape, x api.Tensor) { check(l) })
	next := lot.From(17)
	for range 500 {
		var l []api.Node
		for i := range next(0, 30) {
			l = append(l, api.Node{Kind: next(5, 7), A: next(-1, i+1), B: next(-1, i+1)})
		}
		check(l)
	}
	check(slices.Repeat([]api.Node{{Kind: api.Flat}}, 5000))
}

// P27.4: another node whose value is not used, or none, at whatever place.
func TestUnusedNodes(t *testing.T) {
	unused := 0
	next := lot.From(19)
	lot.Blocks(func(l []api.Node, shapes []api.Shape, x api.Tensor) {
		want, _, _ := graph.Eval(l, x)
		for i := range l[:len(l)-1] {
			if graph.Last(l)[i+1] != 0 {
				continue
			}
			unused++
			other := slices.Clone(l)
			other[i], _ = next.Fitting(shapes[:i+1])
			got, at, err := graph.Eval(other, x)
			if !tensor.Same(got, want) || at != len(l) || err != api.OK {
				t.Fatalf("Eval(%+v) = %+v, %d, %d, want %+v", other, got, at, err, want)
			}
			got, at, err = graph.Eval(without(l, i), x)
			if !tensor.Same(got, want) || at != len(l)-1 || err != api.OK {
				t.Fatalf("Eval(%+v) = %+v, %d, %d, want %+v", without(l, i), got, at, err, want)
			}
		}
	})
	if unused == 0 {
		t.Error("no node was unused")
	}
}

// without is a block without a node at a position, whose value is not used.
func without(l []api.Node, at int) []api.Node {
	l = slices.Delete(slices.Clone(l), at, at+1)
	for i := range l {
		if l[i].A > at {
			l[i].A--
		}
		if l[i].B > at {
			l[i].B--
		}
	}
	return l
}

// Rule 2: what is passed stays as it is, up to its capacity, and shares nothing with what is told; no two values share anything.
func TestNothingIsShared(t *testing.T) {
	lot.Blocks(func(l []api.Node, shapes []api.Shape, right api.Tensor) {
		w, x := lot.Wide(l), right
		x.Data = sample.Wide(right.Data)
		want, _, _ := graph.Values(l, right)
		first, _, _ := graph.Values(w, x)
		second, _, _ := graph.Values(w, x)
		out, _, _ := graph.Eval(w, x)
		graph.Shapes(w, x.Shape)
		graph.Last(w)
		for i := range first {
			clear(first[i].Data[:cap(first[i].Data)])
			if !slices.EqualFunc(first[i+1:], want[i+1:], tensor.Same) {
				t.Fatalf("a value changed with value %d of %+v", i, l)
			}
		}
		if !lot.Kept(w, l) || !slices.Equal(x.Data[:len(x.Data)+3], sample.Wide(right.Data)[:len(x.Data)+3]) {
			t.Fatalf("what was passed for %+v changed", l)
		}
		clear(x.Data)
		lot.Forget(w)
		if !slices.EqualFunc(second, want, tensor.Same) || !tensor.Same(out, want[len(l)]) {
			t.Fatalf("a value of %+v changed with what was passed", l)
		}
	})
	s := api.Shape{H: 2, W: 3, C: 1}
	l := []api.Node{{Kind: api.Flat}, {Kind: api.Flat}}
	got, _, _ := graph.Shapes(l, s)
	last := graph.Last(l)
	clear(got[:cap(got)])
	clear(last[:cap(last)])
	checkShapes(t, l, s, []api.Shape{s, {H: 1, W: 1, C: 6}, {H: 1, W: 1, C: 6}}, 2, api.OK)
	checkLast(t, l, 2, 0, 3)
}

// fault is what is wrong with a node, by the words of the chapter.
func fault(n api.Node, shapes []api.Shape) api.Errno {
	if err := kinds.Check(n); err != api.OK {
		return err
	}
	if n.A < 0 || n.A >= len(shapes) || n.B < 0 || n.B >= len(shapes) {
		return api.ErrValue
	}
	_, err := kinds.Shape(n, shapes[n.A], shapes[n.B])
	return err
}

// P1, rule 6: nodes whose fields are all far away.
func TestFarNodes(t *testing.T) {
	s := api.Shape{H: 2, W: 3, C: 1}
	flat := api.Node{Kind: api.Flat}
	check := func(n api.Node) {
		t.Helper()
		l := []api.Node{flat, n}
		want := fault(n, []api.Shape{s, {H: 1, W: 1, C: 6}})
		if want != api.OK {
			checkWrong(t, l, s, 1, want)
		} else if _, at, err := graph.Eval(l, sample.Tensor(s)); at != 2 || err != api.OK {
			t.Errorf("Eval(%+v) = %d, %d", l, at, err)
		}
		graph.Last(l)
	}
	for _, far := range sample.Far() {
		for kind := -1; kind <= 10; kind++ {
			for _, a := range []int{0, 1, far} {
				for _, q := range []api.Quant{one, {Mult: 1, Shift: far}} {
					n := api.Node{Kind: kind, A: a, B: far, K: far, S: far, P: far, Out: far, Q: q, R: q}
					check(n)
					check(kinds.Plain(n))
				}
			}
		}
	}
	checkLast(t, []api.Node{{Kind: math.MinInt64, A: math.MinInt64}, {Kind: math.MaxInt64, A: math.MaxInt64}}, 0, 0, 3)
}
