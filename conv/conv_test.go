package conv_test

import (
	"math"
	"slices"
	"testing"

	"stepwell/api"
	"stepwell/conv"
	"stepwell/pad"
	"stepwell/sample"
	"stepwell/shape"
)

func check(t *testing.T, call string, got api.Acc, err api.Errno, want api.Acc, wantErr api.Errno) {
	t.Helper()
	if err != wantErr || got.Shape != want.Shape || !slices.Equal(got.Data, want.Data) {
		t.Fatalf("%s = %+v, %d, want %+v, %d", call, got, err, want, wantErr)
	}
}

func checkShape(t *testing.T, s api.Shape, n api.Node, want api.Shape, wantErr api.Errno) {
	t.Helper()
	if got, err := conv.Shape(s, n); err != wantErr || got != want {
		t.Fatalf("Shape of %+v with K %d, S %d, P %d, Out %d, %d weights and %d biases = %+v, %d, want %+v, %d", s, n.K, n.S, n.P, n.Out, len(n.W), len(n.Bias), got, err, want, wantErr)
	}
}

// slid is the shape of a node's sums, or what is wrong with it.
func slid(s api.Shape, n api.Node) (api.Shape, api.Errno) {
	r := sample.Slid(s, n, n.Out)
	if !shape.Right(r) {
		return api.Shape{}, api.ErrShape
	}
	if len(n.W) > api.MaxWeights {
		return api.Shape{}, api.ErrWeights
	}
	return r, api.OK
}

// spread is the sums of a node: each number goes to all sums that it is a part of, without a limit.
func spread(x api.Tensor, n api.Node, s api.Shape) api.Acc {
	sums := make([]int64, s.H*s.W*s.C)
	for i := range sums {
		sums[i] = int64(n.Bias[i%n.Out])
	}
	channels := x.Shape.C
	sample.Covered(x.Shape, n, func(cell, window, place int) {
		for c, v := range x.Data[cell*channels : (cell+1)*channels] {
			for o := range n.Out {
				sums[window*n.Out+o] += int64(n.W[(o*n.K*n.K+place)*channels+c]) * (int64(v) - int64(n.ZA))
			}
		}
	})
	a := api.Acc{Shape: s}
	for _, v := range sums {
		a.Data = append(a.Data, int32(v))
	}
	return a
}

// P10.2: numbers written out, and sums that go on from the other end of 32 bits.
func TestOfByHand(t *testing.T) {
	sample.Sums(func(x api.Tensor, n api.Node, want api.Acc) {
		got, err := conv.Of(x, n)
		check(t, "Of", got, err, want, api.OK)
	})
}

// P10.1, P10.2: all windows over all sorts of tensors.
func TestAllWindows(t *testing.T) {
	for _, x := range append(sample.Tensors(), sample.Tensor(api.Shape{H: 7, W: 8, C: 3})) {
		sample.Windows(func(k, stride, p int) {
			for _, out := range []int{1, 2, 5, 64} {
				n := sample.Node(x.Shape.C, k, stride, p, out)
				s, wantErr := slid(x.Shape, n)
				checkShape(t, x.Shape, n, s, wantErr)
				var want api.Acc
				if wantErr == api.OK {
					want = spread(x, n, s)
				}
				got, err := conv.Of(x, n)
				check(t, "Of", got, err, want, wantErr)
			}
		})
	}
}

// P10.1: as many weights as a node may have, and more, though they are as many as the window asks for.
func TestMostWeights(t *testing.T) {
	heavy := map[api.Errno]int{}
	sample.Heavy(func(s api.Shape, n api.Node) {
		x, want := sample.Tensor(s), api.Acc{}
		one, wantErr := slid(s, n)
		heavy[wantErr]++
		if wantErr == api.OK {
			want = spread(x, n, one)
		}
		checkShape(t, s, n, one, wantErr)
		got, err := conv.Of(x, n)
		check(t, "Of the most weights", got, err, want, wantErr)
	})
	if heavy[api.OK] != 4 || heavy[api.ErrWeights] != 4 {
		t.Errorf("%d nodes have the most weights, %d have more", heavy[api.OK], heavy[api.ErrWeights])
	}
}

// P10.1: one weight or one bias more or less, and none.
func TestWrongWeights(t *testing.T) {
	for _, x := range sample.Tensors() {
		sample.Windows(func(k, stride, p int) {
			right := sample.Node(x.Shape.C, k, stride, p, 2)
			if _, err := slid(x.Shape, right); err != api.OK {
				return
			}
			sample.Misweighed(right, func(n api.Node) {
				checkShape(t, x.Shape, n, api.Shape{}, api.ErrWeights)
				got, err := conv.Of(x, n)
				check(t, "Of wrong weights", got, err, api.Acc{}, api.ErrWeights)
			})
		})
	}
}

// P10.1: what Slide says comes before what the weights are.
func TestErrorsOfSlide(t *testing.T) {
	wrong := 0
	for _, x := range sample.Tensors() {
		sample.WrongWindows(func(n api.Node) {
			_, want := shape.Slide(x.Shape, n.K, n.S, n.P, n.Out)
			if want == api.OK {
				return
			}
			wrong++
			checkShape(t, x.Shape, n, api.Shape{}, want)
			got, err := conv.Of(x, n)
			check(t, "Of a wrong window", got, err, api.Acc{}, want)
		})
	}
	if wrong == 0 {
		t.Error("no window is wrong")
	}
	s := api.Shape{H: 2, W: 3, C: 1}
	checkShape(t, s, api.Node{K: 6, S: 1, Out: 1}, api.Shape{}, api.ErrArg)
	checkShape(t, s, api.Node{K: 2, S: 5, Out: 1}, api.Shape{}, api.ErrArg)
	checkShape(t, s, api.Node{K: 2, S: 1, P: 2, Out: 1}, api.Shape{}, api.ErrArg)
	checkShape(t, s, api.Node{K: 3, S: 1, Out: 1}, api.Shape{}, api.ErrShape)
	checkShape(t, s, api.Node{K: 1, S: 1, Out: 0}, api.Shape{}, api.ErrShape)
	checkShape(t, s, api.Node{K: 1, S: 1, Out: 1025}, api.Shape{}, api.ErrShape)
}

// P10.1, P10.2: a wrong shape or a wrong tensor comes before all that may be wrong with a node.
func TestWrongTensors(t *testing.T) {
	for _, x := range sample.WrongTensors() {
		sample.WrongWindows(func(n api.Node) {
			if !shape.Right(x.Shape) {
				checkShape(t, x.Shape, n, api.Shape{}, api.ErrShape)
			}
			got, err := conv.Of(x, n)
			check(t, "Of a wrong tensor", got, err, api.Acc{}, api.ErrShape)
		})
		n := api.Node{K: 1, S: 1, Out: 1, W: sample.Numbers(max(0, min(x.Shape.C, 1025))), Bias: []int32{1}}
		got, err := conv.Of(x, n)
		check(t, "Of a wrong tensor", got, err, api.Acc{}, api.ErrShape)
	}
}

// P10.1, P10.2: the other fields of a node do not matter.
func TestOtherFields(t *testing.T) {
	x := sample.Tensor(api.Shape{H: 5, W: 4, C: 3})
	n := sample.Node(3, 3, 2, 1, 2)
	s, _ := slid(x.Shape, n)
	want := spread(x, n, s)
	sample.Others(n, func(other api.Node) {
		checkShape(t, x.Shape, other, s, api.OK)
		got, err := conv.Of(x, other)
		check(t, "Of", got, err, want, api.OK)
	})
	// What stands for 0 matters to the sums alone.
	n.ZA++
	checkShape(t, x.Shape, n, s, api.OK)
	got, err := conv.Of(x, n)
	check(t, "Of", got, err, spread(x, n, s), api.OK)
}

// P10.3
func TestBiases(t *testing.T) {
	x := sample.Tensor(api.Shape{H: 6, W: 5, C: 2})
	sample.Windows(func(k, stride, p int) {
		n := sample.Node(2, k, stride, p, 3)
		before, err := conv.Of(x, n)
		if err != api.OK {
			t.Fatalf("K %d, S %d, P %d: %d", k, stride, p, err)
		}
		for channel := range 3 {
			for _, more := range []int32{1, 1000, math.MaxInt32} {
				raised := n
				raised.Bias = slices.Clone(n.Bias)
				raised.Bias[channel] += more
				want := api.Acc{Shape: before.Shape, Data: slices.Clone(before.Data)}
				for i := channel; i < len(want.Data); i += 3 {
					want.Data[i] += more
				}
				got, err := conv.Of(x, raised)
				check(t, "Of with a greater bias", got, err, want, api.OK)
			}
		}
		n.W = make([]int8, len(n.W))
		got, err := conv.Of(x, n)
		check(t, "Of weights of 0", got, err, api.Acc{Shape: before.Shape, Data: slices.Repeat(n.Bias, len(before.Data)/3)}, api.OK)
	})
}

// within tells whether a window lies within the tensor, at its place and one step away in both directions.
func within(s api.Shape, n api.Node, h, w int) bool {
	top, left := h*n.S-n.P, w*n.S-n.P
	return top >= 0 && left >= 0 && top+n.S+n.K <= s.H && left+n.S+n.K <= s.W
}

// P10.4
func TestMovedByTheStep(t *testing.T) {
	x := sample.Tensor(api.Shape{H: 16, W: 15, C: 2})
	sample.Windows(func(k, stride, p int) {
		if (16+2*p-k)/stride >= api.MaxSide {
			return
		}
		n := sample.Node(2, k, stride, p, 2)
		before, err := conv.Of(x, n)
		moved, moveErr := pad.Move(x, stride, stride, 11)
		after, afterErr := conv.Of(moved, n)
		if err != api.OK || moveErr != api.OK || afterErr != api.OK {
			t.Fatalf("K %d, S %d, P %d: %d, %d, %d", k, stride, p, err, moveErr, afterErr)
		}
		compared := 0
		for i, v := range before.Data {
			at, _ := shape.Place(before.Shape, i)
			if !within(x.Shape, n, at[0], at[1]) {
				continue
			}
			compared++
			j, ok := shape.Index(after.Shape, at[0]+1, at[1]+1, at[2])
			if !ok || after.Data[j] != v {
				t.Fatalf("K %d, S %d, P %d: the sum %d at %d did not move by one", k, stride, p, v, at)
			}
		}
		if compared == 0 {
			t.Fatalf("K %d, S %d, P %d: no window is within", k, stride, p)
		}
	})
}

// Rule 2: what is passed stays as it is, up to its capacity, and shares nothing with a result, nor do two results.
func TestNothingIsShared(t *testing.T) {
	if !sample.Unshared(conv.Of, api.Shape{H: 3, W: 3, C: 2}, sample.Node(2, 3, 1, 0, 4)) {
		t.Error("what was passed changed, or a result changed with another list")
	}
}
