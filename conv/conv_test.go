package conv_test

import (
	"math"
	"slices"
	"testing"

	"stepwell/api"
	"stepwell/conv"
	"stepwell/pad"
	"stepwell/sample"
	"stepwell/shape"
	"stepwell/tensor"
)

// node is a window of which all weights and biases differ from their neighbours; some sums leave 32 bits.
func node(channels, k, stride, p, out int) api.Node {
	n := api.Node{K: k, S: stride, P: p, Out: out, ZA: int8(7*k - 20), W: sample.Numbers(out * k * k * channels)}
	for o := range out {
		n.Bias = append(n.Bias, math.MaxInt32-int32(o)*1000003)
	}
	return n
}

func check(t *testing.T, call string, got api.Acc, err api.Errno, want api.Acc, wantErr api.Errno) {
	t.Helper()
	if err != wantErr || got.Shape != want.Shape || !slices.Equal(got.Data, want.Data) {
		t.Fatalf("%s = %+v, %d, want %+v, %d", call, got, err, want, wantErr)
	}
}

func checkShape(t *testing.T, s api.Shape, n api.Node, want api.Shape, wantErr api.Errno) {
	t.Helper()
	if got, err := conv.Shape(s, n); err != wantErr || got != want {
		t.Fatalf("Shape of %+v with K %d, S %d, P %d, Out %d, %d weights and %d biases = %+v, %d, want %+v, %d", s, n.K, n.S, n.P, n.Out, len(n.W), len(n.Bias), got, err, want, wantErr)
	}
}

// slid is the shape of a node's sums, or what is wrong with it.
func slid(s api.Shape, n api.Node) (api.Shape, api.Errno) {
	r := sample.Slid(s, n, n.Out)
	if !shape.Right(r) {
		return api.Shape{}, api.ErrShape
	}
	if len(n.W) > api.MaxWeights {
		return api.Shape{}, api.ErrWeights
	}
	return r, api.OK
}

// spread is the sums of a node: each number goes to all sums that it is a part of, without a limit.
func spread(x api.Tensor, n api.Node, s api.Shape) api.Acc {
	sums := make([]int64, s.H*s.W*s.C)
	for i := range sums {
		sums[i] = int64(n.Bias[i%n.Out])
	}
	channels := x.Shape.C
	sample.Covered(x.Shape, n, func(cell, window, place int) {
		for c, v := range x.Data[cell*channels : (cell+1)*channels] {
			for o := range n.Out {
				sums[window*n.Out+o] += int64(n.W[(o*n.K*n.K+place)*channels+c]) * (int64(v) - int64(n.ZA))
			}
		}
	})
	a := api.Acc{Shape: s}
	for _, v := range sums {
		a.Data = append(a.Data, int32(v))
	}
	return a
}

// P10.2: numbers written out.
func TestOfByHand(t *testing.T) {
	one := api.Tensor{Shape: api.Shape{H: 1, W: 1, C: 1}, Data: []int8{3}}
	got, err := conv.Of(one, api.Node{K: 1, S: 1, Out: 1, ZA: 1, W: []int8{2}, Bias: []int32{10}})
	check(t, "Of one number", got, err, api.Acc{Shape: one.Shape, Data: []int32{14}}, api.OK)

	row := api.Tensor{Shape: api.Shape{H: 3, W: 4, C: 1}, Data: []int8{0, 0, 0, 0, 1, 2, 3, 4, 0, 0, 0, 0}}
	got, err = conv.Of(row, api.Node{K: 3, S: 1, Out: 1, W: []int8{0, 0, 0, 1, 10, 100, 0, 0, 0}, Bias: []int32{0}})
	check(t, "Of a row", got, err, api.Acc{Shape: api.Shape{H: 1, W: 2, C: 1}, Data: []int32{321, 432}}, api.OK)

	// Two channels go in and two go out; behind the border nothing is added, though ZA is not 0.
	x := api.Tensor{Shape: api.Shape{H: 2, W: 1, C: 2}, Data: []int8{3, 4, 5, 6}}
	n := api.Node{K: 2, S: 2, P: 1, Out: 2, ZA: 2, Bias: []int32{1000, -1000}, W: []int8{
		1, 2, 3, 4, 5, 6, 7, 8,
		-1, -2, -3, -4, -5, -6, -7, -8,
	}}
	got, err = conv.Of(x, n)
	check(t, "Of two channels", got, err, api.Acc{Shape: api.Shape{H: 2, W: 1, C: 2}, Data: []int32{1023, -1023, 1025, -1025}}, api.OK)
}

// P10.2: sums go on from the other end of 32 bits.
func TestSumsWrap(t *testing.T) {
	x := api.Tensor{Shape: api.Shape{H: 1, W: 1, C: 2}, Data: []int8{127, 127}}
	for _, c := range []struct {
		weight     int8
		bias, want int32
	}{
		{127, math.MaxInt32, math.MinInt32 + 64769}, {-128, math.MinInt32, math.MaxInt32 - 65279}, {127, math.MaxInt32 - 64770, math.MaxInt32}, {-128, math.MinInt32 + 65280, math.MinInt32}, {127, -64770, 0},
	} {
		got, err := conv.Of(x, api.Node{K: 1, S: 1, Out: 1, ZA: -128, W: []int8{c.weight, c.weight}, Bias: []int32{c.bias}})
		check(t, "Of the greatest numbers", got, err, api.Acc{Shape: api.Shape{H: 1, W: 1, C: 1}, Data: []int32{c.want}}, api.OK)
	}
}

// P10.1, P10.2: all windows over all sorts of tensors.
func TestAllWindows(t *testing.T) {
	for _, x := range append(sample.Tensors(), sample.Tensor(api.Shape{H: 7, W: 8, C: 3})) {
		sample.Windows(func(k, stride, p int) {
			for _, out := range []int{1, 2, 5, 64} {
				n := node(x.Shape.C, k, stride, p, out)
				s, wantErr := slid(x.Shape, n)
				checkShape(t, x.Shape, n, s, wantErr)
				var want api.Acc
				if wantErr == api.OK {
					want = spread(x, n, s)
				}
				got, err := conv.Of(x, n)
				check(t, "Of", got, err, want, wantErr)
			}
		})
	}
}

// P10.1: as many weights as a node may have, and more, though they are as many as the window asks for.
func TestMostWeights(t *testing.T) {
	for _, c := range []struct {
		s      api.Shape
		k, out int
		want   api.Errno
	}{
		{api.Shape{H: 1, W: 1, C: 1024}, 1, 16, api.OK}, {api.Shape{H: 1, W: 1, C: 1024}, 1, 17, api.ErrWeights}, {api.Shape{H: 2, W: 2, C: 256}, 2, 16, api.OK}, {api.Shape{H: 2, W: 2, C: 256}, 2, 17, api.ErrWeights},
		{api.Shape{H: 4, W: 4, C: 64}, 4, 16, api.OK}, {api.Shape{H: 4, W: 4, C: 64}, 4, 17, api.ErrWeights}, {api.Shape{H: 1, W: 1, C: 16}, 1, 1024, api.OK}, {api.Shape{H: 1, W: 1, C: 17}, 1, 1024, api.ErrWeights},
	} {
		n := node(c.s.C, c.k, 1, 0, c.out)
		x, want := sample.Tensor(c.s), api.Acc{}
		if c.want == api.OK {
			want = spread(x, n, api.Shape{H: 1, W: 1, C: c.out})
		}
		checkShape(t, c.s, n, want.Shape, c.want)
		got, err := conv.Of(x, n)
		check(t, "Of the most weights", got, err, want, c.want)
	}
}

// P10.1: one weight or one bias more or less, and none.
func TestWrongWeights(t *testing.T) {
	for _, x := range sample.Tensors() {
		sample.Windows(func(k, stride, p int) {
			right := node(x.Shape.C, k, stride, p, 2)
			if _, err := slid(x.Shape, right); err != api.OK {
				return
			}
			for _, change := range []func(n *api.Node){
				func(n *api.Node) { n.W = n.W[1:] },
				func(n *api.Node) { n.W = append(slices.Clone(n.W), 0) },
				func(n *api.Node) { n.W = n.W[:len(n.W)/2] },
				func(n *api.Node) { n.W = nil },
				func(n *api.Node) { n.Bias = n.Bias[1:] },
				func(n *api.Node) { n.Bias = append(slices.Clone(n.Bias), 0) },
				func(n *api.Node) { n.Bias = nil },
			} {
				n := right
				change(&n)
				checkShape(t, x.Shape, n, api.Shape{}, api.ErrWeights)
				got, err := conv.Of(x, n)
				check(t, "Of wrong weights", got, err, api.Acc{}, api.ErrWeights)
			}
		})
	}
}

// P10.1: what Slide says comes before what the weights are.
func TestErrorsOfSlide(t *testing.T) {
	wrong := 0
	for _, x := range sample.Tensors() {
		sample.WrongWindows(func(n api.Node) {
			_, want := shape.Slide(x.Shape, n.K, n.S, n.P, n.Out)
			if want == api.OK {
				return
			}
			wrong++
			checkShape(t, x.Shape, n, api.Shape{}, want)
			got, err := conv.Of(x, n)
			check(t, "Of a wrong window", got, err, api.Acc{}, want)
		})
	}
	if wrong == 0 {
		t.Error("no window is wrong")
	}
	s := api.Shape{H: 2, W: 3, C: 1}
	checkShape(t, s, api.Node{K: 6, S: 1, Out: 1}, api.Shape{}, api.ErrArg)
	checkShape(t, s, api.Node{K: 2, S: 5, Out: 1}, api.Shape{}, api.ErrArg)
	checkShape(t, s, api.Node{K: 2, S: 1, P: 2, Out: 1}, api.Shape{}, api.ErrArg)
	checkShape(t, s, api.Node{K: 3, S: 1, Out: 1}, api.Shape{}, api.ErrShape)
	checkShape(t, s, api.Node{K: 1, S: 1, Out: 0}, api.Shape{}, api.ErrShape)
	checkShape(t, s, api.Node{K: 1, S: 1, Out: 1025}, api.Shape{}, api.ErrShape)
}

// P10.1, P10.2: a wrong shape or a wrong tensor comes before all that may be wrong with a node.
func TestWrongTensors(t *testing.T) {
	for _, x := range sample.WrongTensors() {
		sample.WrongWindows(func(n api.Node) {
			if !shape.Right(x.Shape) {
				checkShape(t, x.Shape, n, api.Shape{}, api.ErrShape)
			}
			got, err := conv.Of(x, n)
			check(t, "Of a wrong tensor", got, err, api.Acc{}, api.ErrShape)
		})
		n := api.Node{K: 1, S: 1, Out: 1, W: sample.Numbers(max(0, min(x.Shape.C, 1025))), Bias: []int32{1}}
		got, err := conv.Of(x, n)
		check(t, "Of a wrong tensor", got, err, api.Acc{}, api.ErrShape)
	}
}

// P10.1, P10.2: the other fields of a node do not matter.
func TestOtherFields(t *testing.T) {
	x := sample.Tensor(api.Shape{H: 5, W: 4, C: 3})
	n := node(3, 3, 2, 1, 2)
	s, _ := slid(x.Shape, n)
	want := spread(x, n, s)
	for _, other := range []api.Node{{Kind: api.Conv, Hi: 127}, {Kind: api.Flat, A: -1, B: math.MinInt64, ZB: -128, Q: api.Quant{Mult: -1, Shift: 99, Zero: 9}, R: api.Quant{Mult: 5, Shift: -1, Zero: 1}, Lo: 127, Hi: -128}} {
		other.K, other.S, other.P, other.Out, other.ZA, other.W, other.Bias = n.K, n.S, n.P, n.Out, n.ZA, n.W, n.Bias
		checkShape(t, x.Shape, other, s, api.OK)
		got, err := conv.Of(x, other)
		check(t, "Of", got, err, want, api.OK)
	}
	// What stands for 0 matters to the sums alone.
	n.ZA++
	checkShape(t, x.Shape, n, s, api.OK)
	got, err := conv.Of(x, n)
	check(t, "Of", got, err, spread(x, n, s), api.OK)
}

// P10.3
func TestBiases(t *testing.T) {
	x := sample.Tensor(api.Shape{H: 6, W: 5, C: 2})
	sample.Windows(func(k, stride, p int) {
		n := node(2, k, stride, p, 3)
		before, err := conv.Of(x, n)
		if err != api.OK {
			t.Fatalf("K %d, S %d, P %d: %d", k, stride, p, err)
		}
		for channel := range 3 {
			for _, more := range []int32{1, 1000, math.MaxInt32} {
				raised := n
				raised.Bias = slices.Clone(n.Bias)
				raised.Bias[channel] += more
				want := api.Acc{Shape: before.Shape, Data: slices.Clone(before.Data)}
				for i := channel; i < len(want.Data); i += 3 {
					want.Data[i] += more
				}
				got, err := conv.Of(x, raised)
				check(t, "Of with a greater bias", got, err, want, api.OK)
			}
		}
		n.W = make([]int8, len(n.W))
		got, err := conv.Of(x, n)
		check(t, "Of weights of 0", got, err, api.Acc{Shape: before.Shape, Data: slices.Repeat(n.Bias, len(before.Data)/3)}, api.OK)
	})
}

// within tells whether a window lies within the tensor, at its place and one step away in both directions.
func within(s api.Shape, n api.Node, h, w int) bool {
	top, left := h*n.S-n.P, w*n.S-n.P
	return top >= 0 && left >= 0 && top+n.S+n.K <= s.H && left+n.S+n.K <= s.W
}

// P10.4
func TestMovedByTheStep(t *testing.T) {
	x := sample.Tensor(api.Shape{H: 16, W: 15, C: 2})
	sample.Windows(func(k, stride, p int) {
		if (16+2*p-k)/stride >= api.MaxSide {
			return
		}
		n := node(2, k, stride, p, 2)
		before, err := conv.Of(x, n)
		moved, moveErr := pad.Move(x, stride, stride, 11)
		after, afterErr := conv.Of(moved, n)
		if err != api.OK || moveErr != api.OK || afterErr != api.OK {
			t.Fatalf("K %d, S %d, P %d: %d, %d, %d", k, stride, p, err, moveErr, afterErr)
		}
		compared := 0
		for i, v := range before.Data {
			at, _ := shape.Place(before.Shape, i)
			if !within(x.Shape, n, at[0], at[1]) {
				continue
			}
			compared++
			j, ok := shape.Index(after.Shape, at[0]+1, at[1]+1, at[2])
			if !ok || after.Data[j] != v {
				t.Fatalf("K %d, S %d, P %d: the sum %d at %d did not move by one", k, stride, p, v, at)
			}
		}
		if compared == 0 {
			t.Fatalf("K %d, S %d, P %d: no window is within", k, stride, p)
		}
	})
}

// Rule 2: what is passed stays as it is, up to its capacity, and shares nothing with a result, nor do two results.
func TestNothingIsShared(t *testing.T) {
	x := sample.Tensor(api.Shape{H: 3, W: 3, C: 2})
	n := node(2, 3, 1, 0, 4)
	kept := api.Node{W: slices.Clone(n.W), Bias: slices.Clone(n.Bias)}
	x.Data, n.W = sample.Wide(x.Data), sample.Wide(n.W)
	n.Bias = append(n.Bias, 77, 78)[:4]
	first, err := conv.Of(x, n)
	second, secondErr := conv.Of(x, n)
	if err != api.OK || secondErr != api.OK || len(first.Data) != 4 {
		t.Fatalf("%+v, %d, %d", first, err, secondErr)
	}
	want := slices.Clone(second.Data)
	clear(first.Data[:cap(first.Data)])
	if !tensor.Same(x, sample.Tensor(x.Shape)) || !slices.Equal(x.Data[:21], append(sample.Numbers(18), 101, 102, 103)) {
		t.Error("the numbers that were passed changed")
	}
	if !slices.Equal(n.W[:len(n.W)+3], append(kept.W, 101, 102, 103)) || !slices.Equal(n.Bias[:6], append(kept.Bias, 77, 78)) {
		t.Error("the node that was passed changed")
	}
	clear(x.Data)
	clear(n.W)
	clear(n.Bias)
	if !slices.Equal(second.Data, want) {
		t.Error("a result changed with another list")
	}
}
