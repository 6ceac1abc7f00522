package dense_test

import (
	"math"
	"slices"
	"testing"

	"stepwell/api"
	"stepwell/conv"
	"stepwell/dense"
	"stepwell/sample"
	"stepwell/shape"
	"stepwell/tensor"
)

func check(t *testing.T, call string, got api.Acc, err api.Errno, want api.Acc, wantErr api.Errno) {
	t.Helper()
	if err != wantErr || got.Shape != want.Shape || !slices.Equal(got.Data, want.Data) {
		t.Fatalf("%s = %+v, %d, want %+v, %d", call, got, err, want, wantErr)
	}
}

func checkShape(t *testing.T, s api.Shape, n api.Node, want api.Shape, wantErr api.Errno) {
	t.Helper()
	if got, err := dense.Shape(s, n); err != wantErr || got != want {
		t.Fatalf("Shape of %+v with Out %d, %d weights and %d biases = %+v, %d, want %+v, %d", s, n.Out, len(n.W), len(n.Bias), got, err, want, wantErr)
	}
}

// node weighs some numbers for each of its outputs; its window is none.
func node(elems, out int) api.Node {
	n := sample.Node(elems, 1, 0, -1, out)
	n.K = math.MinInt64
	return n
}

// spread is the sums of a line: each number goes to all of them, without a limit.
func spread(x, w []int8, bias []int32, z int8) []int32 {
	sums := make([]int64, len(bias))
	for i, v := range x {
		for o := range sums {
			sums[o] += (int64(v) - int64(z)) * int64(w[o*len(x)+i])
		}
	}
	var l []int32
	for o, v := range sums {
		l = append(l, int32(v+int64(bias[o])))
	}
	return l
}

// P18.1: numbers written out, and sums that go on from the other end of 32 bits.
func TestLineByHand(t *testing.T) {
	const most, least = math.MaxInt32, math.MinInt32
	for _, c := range []struct {
		x, w []int8
		bias []int32
		z    int8
		want []int32
	}{
		{[]int8{1, 2}, []int8{10, 100, 1, 0}, []int32{5, 6}, 0, []int32{215, 7}},
		{[]int8{1, 2}, []int8{10, 100, 1, 0}, []int32{5, 6}, 1, []int32{105, 6}},
		{[]int8{3}, []int8{2}, []int32{10}, 1, []int32{14}},
		{[]int8{-128, 127}, []int8{-128, 127}, []int32{0}, 0, []int32{16384 + 16129}},
		{[]int8{127, 127}, []int8{127, 127, -128, -128, -128, 0}, []int32{most, least, least + 32640}, -128, []int32{least + 64769, most - 65279, least}},
		{[]int8{-128}, []int8{127, -128, 1}, []int32{least, most, 255}, 127, []int32{most - 32384, least + 32639, 0}},
	} {
		if got := dense.Line(c.x, c.w, c.bias, c.z); !slices.Equal(got, c.want) {
			t.Errorf("Line(%d, %d, %d, %d) = %d, want %d", c.x, c.w, c.bias, c.z, got, c.want)
		}
	}
}

// P18.1: as many numbers and biases as one may pass; there is no limit to the weights.
func TestLine(t *testing.T) {
	for _, size := range []int{1, 2, 3, 17, 1024, 1025, 3000} {
		for _, out := range []int{1, 2, 5, 64, 1025} {
			x, n := sample.Numbers(size), node(size, out)
			for _, z := range []int8{math.MinInt8, -1, 0, 9, math.MaxInt8} {
				if got, want := dense.Line(x, n.W, n.Bias, z), spread(x, n.W, n.Bias, z); !slices.Equal(got, want) {
					t.Fatalf("Line of %d numbers with %d biases and z %d = %d, want %d", size, out, z, got, want)
				}
			}
		}
	}
}

// P18.1: none of what there must be some of, or another number of weights.
func TestWrongLines(t *testing.T) {
	for x := range 5 {
		for bias := range 5 {
			for w := range 20 {
				got := dense.Line(make([]int8, x), make([]int8, w), make([]int32, bias), 1)
				right := x > 0 && bias > 0 && w == x*bias
				if right && len(got) != bias || !right && got != nil {
					t.Errorf("Line of %d numbers, %d weights and %d biases = %d", x, w, bias, got)
				}
			}
		}
	}
	if got := dense.Line(nil, nil, nil, 0); got != nil {
		t.Errorf("Line of nothing = %d", got)
	}
}

// P18.2: all sorts of tensors.
func TestAllTensors(t *testing.T) {
	for _, x := range sample.Tensors() {
		for _, out := range []int{1, 2, 5, 16} {
			n := node(len(x.Data), out)
			s := api.Shape{H: 1, W: 1, C: out}
			checkShape(t, x.Shape, n, s, api.OK)
			got, err := dense.Of(x, n)
			check(t, "Of", got, err, api.Acc{Shape: s, Data: spread(x.Data, n.W, n.Bias, n.ZA)}, api.OK)
		}
	}
}

// P18.2: as many weights and outputs as a node may have, and more.
func TestMostWeights(t *testing.T) {
	for _, c := range []struct {
		s    api.Shape
		out  int
		want api.Errno
	}{
		{api.Shape{H: 16, W: 16, C: 4}, 16, api.OK}, {api.Shape{H: 16, W: 16, C: 4}, 17, api.ErrWeights}, {api.Shape{H: 1, W: 1, C: 1024}, 1024, api.ErrWeights},
		{api.Shape{H: 1, W: 1, C: 16}, 1024, api.OK}, {api.Shape{H: 4, W: 4, C: 1}, 1024, api.OK}, {api.Shape{H: 1, W: 1, C: 17}, 1024, api.ErrWeights},
		{api.Shape{H: 1, W: 1, C: 1}, 1024, api.OK}, {api.Shape{H: 1, W: 1, C: 1}, 1025, api.ErrShape}, {api.Shape{H: 1, W: 1, C: 16}, 1025, api.ErrShape},
	} {
		x, n := sample.Tensor(c.s), node(c.s.H*c.s.W*c.s.C, c.out)
		s, want := api.Shape{}, api.Acc{}
		if c.want == api.OK {
			s = api.Shape{H: 1, W: 1, C: c.out}
			want = api.Acc{Shape: s, Data: spread(x.Data, n.W, n.Bias, n.ZA)}
		}
		checkShape(t, c.s, n, s, c.want)
		got, err := dense.Of(x, n)
		check(t, "Of the most weights", got, err, want, c.want)
	}
}

// P18.2: one weight or one bias more or less, and none.
func TestWrongWeights(t *testing.T) {
	for _, x := range sample.Tensors() {
		for _, out := range []int{1, 2, 5} {
			sample.Misweighed(node(len(x.Data), out), func(n api.Node) {
				checkShape(t, x.Shape, n, api.Shape{}, api.ErrWeights)
				got, err := dense.Of(x, n)
				check(t, "Of wrong weights", got, err, api.Acc{}, api.ErrWeights)
			})
			// The weights of another number of outputs.
			n := node(len(x.Data), out)
			n.Out++
			checkShape(t, x.Shape, n, api.Shape{}, api.ErrWeights)
			n.Bias = append(n.Bias, 0)
			checkShape(t, x.Shape, n, api.Shape{}, api.ErrWeights)
		}
	}
}

// P18.2: a wrong number of outputs comes before what the weights are.
func TestWrongOutputs(t *testing.T) {
	for _, x := range sample.Tensors() {
		for _, out := range append([]int{0}, sample.Far()...) {
			if out == 1024 {
				continue
			}
			for _, n := range []api.Node{{}, node(len(x.Data), 1), node(len(x.Data), 2)} {
				n.Out = out
				checkShape(t, x.Shape, n, api.Shape{}, api.ErrShape)
				got, err := dense.Of(x, n)
				check(t, "Of wrong outputs", got, err, api.Acc{}, api.ErrShape)
			}
		}
	}
}

// P18.2: a wrong shape or a wrong tensor comes before all that may be wrong with a node.
func TestWrongTensors(t *testing.T) {
	for _, x := range sample.WrongTensors() {
		for _, out := range append([]int{0, 1, 2}, sample.Far()...) {
			for _, n := range []api.Node{{Out: out}, {Out: out, W: sample.Numbers(len(x.Data)), Bias: []int32{1}}, {Out: out, Bias: make([]int32, max(0, min(out, 1025)))}} {
				if !shape.Right(x.Shape) {
					checkShape(t, x.Shape, n, api.Shape{}, api.ErrShape)
				}
				got, err := dense.Of(x, n)
				check(t, "Of a wrong tensor", got, err, api.Acc{}, api.ErrShape)
			}
		}
	}
}

// P18.2: the other fields of a node do not matter, nor does how the numbers are arranged.
func TestOtherFields(t *testing.T) {
	x := sample.Tensor(api.Shape{H: 2, W: 3, C: 4})
	n := node(24, 3)
	s := api.Shape{H: 1, W: 1, C: 3}
	want := api.Acc{Shape: s, Data: spread(x.Data, n.W, n.Bias, n.ZA)}
	sample.Others(n, func(other api.Node) {
		for _, far := range append([]int{0, 1, 3}, sample.Far()...) {
			other.K, other.S, other.P = far, far, far
			checkShape(t, x.Shape, other, s, api.OK)
			got, err := dense.Of(x, other)
			check(t, "Of", got, err, want, api.OK)
		}
	})
	for _, arranged := range []api.Shape{{H: 1, W: 1, C: 24}, {H: 4, W: 6, C: 1}, {H: 1, W: 12, C: 2}} {
		got, err := dense.Of(api.Tensor{Shape: arranged, Data: x.Data}, n)
		check(t, "Of", got, err, want, api.OK)
	}
	// What stands for 0 matters to the sums alone.
	n.ZA++
	checkShape(t, x.Shape, n, s, api.OK)
	got, err := dense.Of(x, n)
	check(t, "Of", got, err, api.Acc{Shape: s, Data: spread(x.Data, n.W, n.Bias, n.ZA)}, api.OK)
}

// P18.2: a window of one number over a flat tensor has the same sums.
func TestLikeConv(t *testing.T) {
	for _, x := range sample.Tensors() {
		n := sample.Node(len(x.Data), 1, 1, 0, 7)
		flat, err := tensor.Flat(x)
		want, wantErr := conv.Of(flat, n)
		if err != api.OK || wantErr != api.OK {
			t.Fatalf("%+v: %d, %d", x.Shape, err, wantErr)
		}
		got, err := dense.Of(x, n)
		check(t, "Of", got, err, want, api.OK)
	}
}

// P18.3
func TestRowsAdded(t *testing.T) {
	for _, size := range []int{1, 2, 24, 1024} {
		for _, bias := range []int32{0, 1, -1000, math.MaxInt32, math.MinInt32} {
			for _, z := range []int8{math.MinInt8, 0, 5, math.MaxInt8} {
				x, w := sample.Numbers(size), make([]int8, 3*size)
				for i := range size {
					// Halves, so that their sums still have 8 bits.
					w[i], w[size+i] = int8(i*41)/2, int8(i*67+13)/2
					w[2*size+i] = w[i] + w[size+i]
				}
				sums := dense.Line(x, w, []int32{bias, bias, bias}, z)
				if sums[2] != sums[0]+sums[1]-bias {
					t.Errorf("%d numbers with the bias %d and z %d: %d and %d, but %d with both rows", size, bias, z, sums[0], sums[1], sums[2])
				}
			}
		}
	}
}

// Rule 2: what is passed stays as it is, up to its capacity, and shares nothing with a result, nor do two results.
func TestNothingIsShared(t *testing.T) {
	if !sample.Unshared(dense.Of, api.Shape{H: 3, W: 3, C: 2}, node(18, 4)) {
		t.Error("what was passed changed, or a result of Of changed with another list")
	}
	line := func(x api.Tensor, n api.Node) (api.Acc, api.Errno) {
		return api.Acc{Data: dense.Line(x.Data, n.W, n.Bias, n.ZA)}, api.OK
	}
	if !sample.Unshared(line, api.Shape{H: 3, W: 3, C: 2}, node(18, 4)) {
		t.Error("what was passed changed, or a result of Line changed with another list")
	}
}
