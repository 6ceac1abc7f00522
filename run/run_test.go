package run_test

import (
	"math"
	"slices"
	"testing"

	"stepwell/act"
	"stepwell/api"
	"stepwell/conv"
	"stepwell/dense"
	"stepwell/depth"
	"stepwell/fix"
	"stepwell/join"
	"stepwell/kinds"
	"stepwell/pad"
	"stepwell/pool"
	"stepwell/run"
	"stepwell/sample"
	"stepwell/shape"
	"stepwell/tensor"
)

var (
	allKinds = []int{api.Conv, api.Depth, api.Dense, api.MaxPool, api.AvgPool, api.Join, api.Act, api.Pad, api.Flat}
	// scale leaves most numbers different from their neighbours, for sums and for numbers of 8 bits.
	scale = api.Quant{Mult: 5, Shift: 4, Zero: 9}
)

func check(t *testing.T, call string, got api.Tensor, err api.Errno, want api.Tensor, wantErr api.Errno) {
	t.Helper()
	if err != wantErr || got.Shape != want.Shape || !slices.Equal(got.Data, want.Data) {
		t.Fatalf("%s = %+v, %d, want %+v, %d", call, got, err, want, wantErr)
	}
}

func checkSums(t *testing.T, call string, got api.Acc, err api.Errno, want api.Acc, wantErr api.Errno) {
	t.Helper()
	if err != wantErr || got.Shape != want.Shape || !slices.Equal(got.Data, want.Data) {
		t.Fatalf("%s = %+v, %d, want %+v, %d", call, got, err, want, wantErr)
	}
}

// sums is what a node with sums computes, by the layers that the chapter names.
func sums(n api.Node, a api.Tensor) (api.Acc, api.Errno) {
	switch n.Kind {
	case api.Conv:
		return conv.Of(a, n)
	case api.Depth:
		return depth.Of(a, n)
	case api.Dense:
		return dense.Of(a, n)
	}
	return api.Acc{}, api.ErrKind
}

// made is what a node makes, by the words of the chapter.
func made(n api.Node, a, b api.Tensor) (api.Tensor, api.Errno) {
	if err := kinds.Check(n); err != api.OK {
		return api.Tensor{}, err
	}
	if !tensor.Right(a) {
		return api.Tensor{}, api.ErrShape
	}
	switch n.Kind {
	case api.MaxPool:
		return pool.Max(a, n)
	case api.AvgPool:
		return pool.Mean(a, n)
	case api.Join:
		return join.Of(a, b, n)
	case api.Act:
		return act.Of(a, n)
	case api.Pad:
		return pad.Around(a, n.P, n.ZA)
	case api.Flat:
		return api.Tensor{Shape: api.Shape{H: 1, W: 1, C: len(a.Data)}, Data: a.Data}, api.OK
	}
	of, err := sums(n, a)
	if err != api.OK {
		return api.Tensor{}, err
	}
	t := api.Tensor{Shape: of.Shape}
	for _, sum := range of.Data {
		t.Data = append(t.Data, fix.Held(sum, n.Q, n.Lo, n.Hi))
	}
	return t, api.OK
}

func checkNode(t *testing.T, n api.Node, a, b api.Tensor) api.Errno {
	t.Helper()
	want, wantErr := made(n, a, b)
	got, err := run.Node(n, a, b)
	check(t, "Node of "+kinds.Name(n.Kind), got, err, want, wantErr)
	return err
}

// weighed is a node with sums that Q brings back to 8 bits; no bias is so great that it hides the weights.
func weighed(kind int, n api.Node) api.Node {
	n.Kind, n.Q, n.Lo, n.Hi = kind, api.Quant{Mult: 3, Shift: 10, Zero: -5}, -120, 125
	for o := range n.Bias {
		n.Bias[o] = int32(o*700 - 1000)
	}
	return kinds.Plain(n)
}

// slide visits nodes of all kinds with windows, for a shape; some of them cannot take it.
func slide(s api.Shape, visit func(n api.Node)) {
	sample.Windows(func(k, stride, p int) {
		visit(weighed(api.Conv, sample.Node(s.C, k, stride, p, 3)))
		visit(weighed(api.Depth, sample.Node(1, k, stride, p, s.C)))
		visit(api.Node{Kind: api.MaxPool, K: k, S: stride, P: p})
		visit(api.Node{Kind: api.AvgPool, K: k, S: stride, P: p})
	})
}

// nodes visits nodes of all kinds for a shape; some of them cannot take it.
func nodes(s api.Shape, visit func(n api.Node)) {
	slide(s, visit)
	for _, out := range []int{1, 2, 16} {
		visit(weighed(api.Dense, sample.Node(shape.Elems(s), 1, 1, 0, out)))
	}
	for _, zero := range []int8{-128, 0, 5} {
		visit(api.Node{Kind: api.Join, B: 1, ZA: zero, ZB: 3, Q: scale, R: api.Quant{Mult: 1, Shift: 1}, Lo: -100, Hi: 90})
		visit(api.Node{Kind: api.Act, A: 1, ZA: zero, Q: scale, Lo: -100, Hi: 90})
		for p := -1; p <= 5; p++ {
			visit(api.Node{Kind: api.Pad, P: p, ZA: zero})
		}
	}
	visit(api.Node{Kind: api.Flat, A: -3})
}

// other is a tensor of the same shape with other numbers.
func other(a api.Tensor) api.Tensor {
	b := api.Tensor{Shape: a.Shape, Data: slices.Clone(a.Data)}
	slices.Reverse(b.Data)
	return b
}

// P26.1: numbers written out.
func TestSumByHand(t *testing.T) {
	compared := map[bool]int{}
	sample.Sums(func(x api.Tensor, n api.Node, want api.Acc) {
		n.Kind = api.Conv
		compared[n.K == 3 && n.S == 1]++
		got, err := run.Sum(n, x)
		checkSums(t, "Sum of conv", got, err, want, api.OK)
	})
	if compared[true] == 0 || compared[false] == 0 {
		t.Errorf("compared: %v", compared)
	}
	pair := api.Tensor{Shape: api.Shape{H: 1, W: 1, C: 2}, Data: []int8{2, 3}}
	got, err := run.Sum(api.Node{Kind: api.Depth, K: 1, S: 1, W: []int8{10, 100}, Bias: []int32{1, 1}}, pair)
	checkSums(t, "Sum of depth", got, err, api.Acc{Shape: pair.Shape, Data: []int32{21, 301}}, api.OK)
	got, err = run.Sum(api.Node{Kind: api.Dense, Out: 3, ZA: 1, W: []int8{10, 100, 1, 0, 0, 1}, Bias: []int32{5, 6, math.MaxInt32}}, pair)
	checkSums(t, "Sum of dense", got, err, api.Acc{Shape: api.Shape{H: 1, W: 1, C: 3}, Data: []int32{215, 7, math.MinInt32 + 1}}, api.OK)
}

// P26.1: all windows over all sorts of tensors, with all kinds and with none.
func TestSum(t *testing.T) {
	told := map[api.Errno]int{}
	for _, x := range append(sample.Tensors(), sample.Tensor(api.Shape{H: 7, W: 8, C: 3})) {
		sample.Windows(func(k, stride, p int) {
			for _, n := range []api.Node{
				sample.Node(x.Shape.C, k, stride, p, 3), sample.Node(1, k, stride, p, x.Shape.C),
				sample.Node(shape.Elems(x.Shape), 1, 1, 0, k), {},
			} {
				for kind := range 11 {
					n.Kind = kind
					want, wantErr := sums(n, x)
					got, err := run.Sum(n, x)
					checkSums(t, "Sum", got, err, want, wantErr)
					told[err]++
				}
			}
		})
	}
	for _, err := range []api.Errno{api.OK, api.ErrArg, api.ErrShape, api.ErrKind, api.ErrWeights} {
		if told[err] == 0 {
			t.Errorf("only %v was told", told)
		}
	}
}

// P26.1: a kind without sums comes before all else, then a wrong tensor, then what is wrong with the window.
func TestWrongSums(t *testing.T) {
	for _, x := range sample.WrongTensors() {
		for _, kind := range append([]int{0, 1, 2, 3, 4, 5, 6, 7, 8, 9, 10}, sample.Far()...) {
			want := api.ErrKind
			if kind >= api.Conv && kind <= api.Dense {
				want = api.ErrShape
			}
			channels := max(0, min(x.Shape.C, 1025))
			for _, n := range []api.Node{{}, sample.Node(channels, 3, 1, 1, 1), sample.Node(channels, 1, 1, 0, 1), {K: -1, S: 9, Out: 2000}} {
				n.Kind = kind
				got, err := run.Sum(n, x)
				checkSums(t, "Sum of a wrong tensor", got, err, api.Acc{}, want)
			}
		}
	}
	x := sample.Tensor(api.Shape{H: 4, W: 3, C: 2})
	sample.WrongWindows(func(n api.Node) {
		for kind := range 11 {
			n.Kind = kind
			want, wantErr := sums(n, x)
			got, err := run.Sum(n, x)
			checkSums(t, "Sum of a wrong window", got, err, want, wantErr)
		}
	})
	for _, k := range []int{1, 3} {
		sample.Misweighed(sample.Node(2, k, 1, 0, 2), func(n api.Node) {
			n.Kind = api.Conv
			got, err := run.Sum(n, x)
			checkSums(t, "Sum of wrong weights", got, err, api.Acc{}, api.ErrWeights)
		})
	}
}

// P26.1: what does not tell how a window adds up does not matter.
func TestSumOfOtherFields(t *testing.T) {
	x := sample.Tensor(api.Shape{H: 4, W: 3, C: 2})
	for k := 1; k <= 3; k++ {
		right := sample.Node(2, k, 1, 0, 2)
		want, wantErr := conv.Of(x, right)
		sample.Others(right, func(n api.Node) {
			n.Kind = api.Conv
			got, err := run.Sum(n, x)
			checkSums(t, "Sum", got, err, want, wantErr)
		})
	}
}

// P26.2: a node of each kind, written out.
func TestNodeByHand(t *testing.T) {
	x := api.Tensor{Shape: api.Shape{H: 2, W: 2, C: 1}, Data: []int8{1, 2, 3, 5}}
	y := api.Tensor{Shape: x.Shape, Data: []int8{10, 20, 30, 50}}
	one, half := api.Quant{Mult: 1}, api.Quant{Mult: 1, Shift: 1, Zero: 1}
	row := func(l ...int8) api.Tensor { return api.Tensor{Shape: api.Shape{H: 1, W: 1, C: len(l)}, Data: l} }
	square := func(l ...int8) api.Tensor { return api.Tensor{Shape: x.Shape, Data: l} }
	for _, c := range []struct {
		n    api.Node
		want api.Tensor
	}{
		{api.Node{Kind: api.Conv, K: 2, S: 1, Out: 2, ZA: 1, W: []int8{1, 1, 1, 1, 0, 0, 0, -9}, Bias: []int32{4, 5}, Q: half, Lo: -10, Hi: 99}, row(7, -10)},
		// The numbers around it: 1, 2 and 3, 5, minus ZA, and nothing beyond.
		{api.Node{Kind: api.Conv, K: 3, S: 1, P: 1, Out: 1, ZA: 1, W: []int8{0, 0, 0, 1, 0, 10, 0, 0, 0}, Bias: []int32{0}, Q: one, Lo: -10, Hi: 99}, square(10, 0, 40, 2)},
		{api.Node{Kind: api.Conv, K: 3, S: 2, P: 1, Out: 1, ZA: 1, W: []int8{0, 0, 0, 1, 0, 10, 0, 0, 0}, Bias: []int32{0}, Q: one, Lo: -10, Hi: 99}, row(10)},
		{api.Node{Kind: api.Depth, K: 2, S: 1, W: []int8{1, 10, 1, -1}, Bias: []int32{-3}, Q: one, Lo: -128, Hi: 127}, row(16)},
		{api.Node{Kind: api.Dense, Out: 2, ZA: 2, W: []int8{1, 2, 3, 4, -4, -3, -2, -1}, Bias: []int32{0, 0}, Q: half, Lo: -128, Hi: 7}, row(7, 0)},
		{api.Node{Kind: api.MaxPool, K: 2, S: 2}, row(5)},
		{api.Node{Kind: api.AvgPool, K: 2, S: 2}, row(3)},
		{api.Node{Kind: api.AvgPool, K: 2, S: 2, P: 1}, square(1, 2, 3, 5)},
		{api.Node{Kind: api.Join, B: 7, ZA: 1, ZB: 10, Q: one, R: api.Quant{Mult: 1, Shift: 1}, Lo: 0, Hi: 20}, square(0, 6, 12, 20)},
		{api.Node{Kind: api.Act, ZA: 3, Q: half, Lo: 0, Hi: 1}, square(0, 0, 1, 1)},
		{api.Node{Kind: api.Act, ZA: 3, Q: half, Lo: -1, Hi: 9}, square(0, 0, 1, 2)},
		{api.Node{Kind: api.Pad, P: 1, ZA: -4}, api.Tensor{Shape: api.Shape{H: 4, W: 4, C: 1}, Data: []int8{-4, -4, -4, -4, -4, 1, 2, -4, -4, 3, 5, -4, -4, -4, -4, -4}}},
		{api.Node{Kind: api.Pad, ZA: -4}, x},
		{api.Node{Kind: api.Flat, A: 9}, row(1, 2, 3, 5)},
	} {
		got, err := run.Node(c.n, x, y)
		check(t, "Node of "+kinds.Name(c.n.Kind), got, err, c.want, api.OK)
	}
	got, err := run.Node(api.Node{Kind: api.Flat}, api.Tensor{Shape: api.Shape{H: 2, W: 1, C: 1}, Data: []int8{1, 2}}, api.Tensor{})
	check(t, "Node of two rows", got, err, row(1, 2), api.OK)
}

// P26.2, P26.3: nodes of all kinds with all sorts of tensors, and the shapes that kinds tells.
func TestNode(t *testing.T) {
	told := map[api.Errno]int{}
	ran := map[int]int{}
	for _, x := range append(sample.Tensors(), sample.Tensor(api.Shape{H: 7, W: 8, C: 3})) {
		nodes(x.Shape, func(n api.Node) {
			if err := kinds.Check(n); err != api.OK {
				t.Fatalf("Check(%+v) = %d", n, err)
			}
			err := checkNode(t, n, x, other(x))
			told[err]++
			if err == api.OK {
				ran[n.Kind]++
			}
			want, wantErr := kinds.Shape(n, x.Shape, x.Shape)
			got, _ := run.Node(n, x, other(x))
			if got.Shape != want || err != wantErr || err == api.OK != tensor.Right(got) {
				t.Fatalf("Node of %s has the shape %+v and %d, Shape told %+v, %d", kinds.Name(n.Kind), got.Shape, err, want, wantErr)
			}
		})
	}
	for _, err := range []api.Errno{api.OK, api.ErrArg, api.ErrShape, api.ErrWeights} {
		if told[err] == 0 {
			t.Errorf("only %v was told", told)
		}
	}
	if len(ran) != len(allKinds) {
		t.Errorf("only kinds %v made something", ran)
	}
}

// P26.2: what Check says comes before all else, for all kinds and for none.
func TestWrongNodes(t *testing.T) {
	right := sample.Tensor(api.Shape{H: 3, W: 3, C: 1})
	for _, x := range []api.Tensor{right, {}, {Shape: right.Shape, Data: right.Data[:8]}} {
		for _, kind := range append([]int{0, 10, 257}, sample.Far()...) {
			if slices.Contains(allKinds, kind) {
				continue
			}
			got, err := run.Node(api.Node{Kind: kind, K: 1, S: 1}, x, x)
			check(t, "Node of no kind", got, err, api.Tensor{}, api.ErrKind)
		}
		nodes(right.Shape, func(n api.Node) {
			wrong := n
			wrong.R.Zero = 1
			got, err := run.Node(wrong, x, x)
			check(t, "Node with another field", got, err, api.Tensor{}, api.ErrArg)
			if n.Q == (api.Quant{}) {
				return
			}
			wrong = n
			wrong.Q.Mult = 0
			got, err = run.Node(wrong, x, x)
			check(t, "Node with a wrong scale", got, err, api.Tensor{}, api.ErrQuant)
			wrong = n
			wrong.Lo, wrong.Hi = 1, 0
			got, err = run.Node(wrong, x, x)
			check(t, "Node with exchanged limits", got, err, api.Tensor{}, api.ErrArg)
		})
	}
}

// P26.2: a wrong tensor comes before what is wrong with a window, its weights or its border.
func TestWrongTensors(t *testing.T) {
	for _, x := range sample.WrongTensors() {
		channels := max(1, min(x.Shape.C, 1024))
		for _, n := range []api.Node{
			weighed(api.Conv, sample.Node(channels, 3, 1, 1, 1)), weighed(api.Conv, api.Node{K: -1, S: 9, Out: 3}),
			{Kind: api.MaxPool, K: 1, S: 1}, {Kind: api.AvgPool, K: 1, S: 1}, {Kind: api.MaxPool}, {Kind: api.AvgPool, K: 9, S: 9, P: 9},
			{Kind: api.Depth, K: 9, Q: scale}, {Kind: api.Dense, Out: -9, Q: scale},
			{Kind: api.Join, Q: scale, R: api.Quant{Mult: 1}}, {Kind: api.Act, Q: scale}, {Kind: api.Pad}, {Kind: api.Pad, P: -1}, {Kind: api.Pad, P: 5}, {Kind: api.Flat},
		} {
			got, err := run.Node(n, x, x)
			check(t, "Node of a wrong tensor", got, err, api.Tensor{}, api.ErrShape)
		}
	}
}

// P26.2: windows that may not be, and weights that are not as many as they must be.
func TestWrongWindows(t *testing.T) {
	x := sample.Tensor(api.Shape{H: 4, W: 3, C: 2})
	told := map[api.Errno]int{}
	sample.WrongWindows(func(n api.Node) {
		n.Q, n.Hi = scale, 9
		for _, kind := range allKinds {
			n.Kind = kind
			told[checkNode(t, kinds.Plain(n), x, x)]++
		}
	})
	for _, k := range []int{1, 3} {
		sample.Misweighed(weighed(api.Conv, sample.Node(2, k, 1, 0, 2)), func(n api.Node) { told[checkNode(t, n, x, x)]++ })
	}
	for _, err := range []api.Errno{api.OK, api.ErrArg, api.ErrShape, api.ErrWeights, api.ErrQuant} {
		if told[err] == 0 {
			t.Errorf("only %v was told", told)
		}
	}
}

// P26.2: only a Join uses b, and it has to be a tensor of the same shape there.
func TestSecondTensor(t *testing.T) {
	x := sample.Tensor(api.Shape{H: 4, W: 3, C: 2})
	seconds := append(sample.WrongTensors(), sample.Tensors()...)
	nodes(x.Shape, func(n api.Node) {
		if n.Kind == api.Conv && n.K > 3 {
			return
		}
		want, wantErr := run.Node(n, x, x)
		for _, b := range seconds {
			got, err := run.Node(n, x, b)
			switch {
			case n.Kind == api.Join && b.Shape == x.Shape && len(b.Data) == 24:
				checkNode(t, n, x, b)
			case n.Kind == api.Join:
				check(t, "Node of join", got, err, api.Tensor{}, api.ErrShape)
			default:
				check(t, "Node of "+kinds.Name(n.Kind), got, err, want, wantErr)
			}
		}
	})
}

// P26.4: calls in another order, and other values that a node takes.
func TestNodeAgain(t *testing.T) {
	x := sample.Tensor(api.Shape{H: 5, W: 4, C: 2})
	var l []api.Node
	var made []api.Tensor
	nodes(x.Shape, func(n api.Node) {
		got, _ := run.Node(n, x, other(x))
		l, made = append(l, n), append(made, got)
	})
	for i := len(l) - 1; i >= 0; i-- {
		_, wantErr := kinds.Shape(l[i], x.Shape, x.Shape)
		for _, far := range []int{0, 1, math.MinInt64, math.MaxInt64} {
			n := l[i]
			n.A = far
			if n.Kind == api.Join {
				n.B = far
			}
			got, err := run.Node(n, x, other(x))
			check(t, "Node once more", got, err, made[i], wantErr)
		}
	}
}

// Rule 2: what is passed stays as it is, up to its capacity, and shares nothing with a result, nor do two results.
func TestNothingIsShared(t *testing.T) {
	s := api.Shape{H: 4, W: 3, C: 2}
	nodes(s, func(right api.Node) {
		n, x, y := right, sample.Tensor(s), other(sample.Tensor(s))
		x.Data, y.Data = sample.Wide(x.Data), sample.Wide(y.Data)
		n.W, n.Bias = sample.Wide(right.W), append(slices.Clone(right.Bias), 77)[:len(right.Bias)]
		want, wantErr := made(right, sample.Tensor(s), other(sample.Tensor(s)))
		first, err := run.Node(n, x, y)
		check(t, "Node", first, err, want, wantErr)
		second, _ := run.Node(n, x, y)
		clear(first.Data[:cap(first.Data)])
		if !slices.Equal(x.Data[:27], sample.Wide(sample.Tensor(s).Data)[:27]) || !slices.Equal(y.Data[:27], sample.Wide(other(sample.Tensor(s)).Data)[:27]) ||
			!slices.Equal(n.W[:len(right.W)+3], sample.Wide(right.W)[:len(right.W)+3]) || !slices.Equal(n.Bias[:len(right.Bias)+1], append(slices.Clone(right.Bias), 77)) {
			t.Fatalf("what was passed to %s, or its result, changed", kinds.Name(n.Kind))
		}
		clear(x.Data)
		clear(y.Data)
		clear(n.W)
		clear(n.Bias)
		check(t, "Node behind a change of what was passed", second, err, want, wantErr)
	})
	for _, n := range []api.Node{sample.Node(2, 3, 1, 1, 3), sample.Node(2, 2, 1, 1, 3)} {
		n.Kind = api.Conv
		if !sample.Unshared(func(x api.Tensor, n api.Node) (api.Acc, api.Errno) { return run.Sum(n, x) }, s, n) {
			t.Error("what was passed to Sum changed, or a result changed with another list")
		}
	}
}
