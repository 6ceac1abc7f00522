package lane_test

import (
	"math"
	"slices"
	"testing"

	"stepwell/api"
	"stepwell/conv"
	"stepwell/lane"
	"stepwell/sample"
)

func check(t *testing.T, call string, got api.Acc, err api.Errno, want api.Acc, wantErr api.Errno) {
	t.Helper()
	if err != wantErr || got.Shape != want.Shape || !slices.Equal(got.Data, want.Data) {
		t.Fatalf("%s = %+v, %d, want %+v, %d", call, got, err, want, wantErr)
	}
}

// checkSums holds the sums against those of conv.
func checkSums(t *testing.T, x api.Tensor, n api.Node) api.Errno {
	t.Helper()
	want, wantErr := conv.Of(x, n)
	if wantErr == api.OK && (n.K != 3 || n.S != 1) {
		want, wantErr = api.Acc{}, api.ErrArg
	}
	got, err := lane.Of(x, n)
	check(t, "Of", got, err, want, wantErr)
	return err
}

// P16.1
func TestFits(t *testing.T) {
	numbers := append([]int{0, 1, 2, 3, 4, 5, 6, 1<<32 + 3}, sample.Far()...)
	for _, k := range numbers {
		for _, stride := range numbers {
			n := api.Node{K: k, S: stride}
			want := k == 3 && stride == 1
			if got := lane.Fits(n); got != want {
				t.Errorf("Fits of K %d, S %d = %t", k, stride, got)
			}
			sample.Others(n, func(other api.Node) {
				other.P, other.Out = -5, math.MinInt64
				if got := lane.Fits(other); got != want {
					t.Errorf("Fits of K %d, S %d and other fields = %t", k, stride, got)
				}
			})
		}
	}
}

// widened is a window of one number as one with a side of 3, whose other weights are 0.
func widened(n api.Node, channels int) api.Node {
	w := make([]int8, n.Out*9*channels)
	for i, v := range n.W {
		w[(i/channels*9+4)*channels+i%channels] = v
	}
	n.K, n.P, n.W = 3, 1, w
	return n
}

// P16.2: numbers written out, and sums that go on from the other end of 32 bits.
func TestOfByHand(t *testing.T) {
	compared := 0
	sample.Sums(func(x api.Tensor, n api.Node, want api.Acc) {
		if n.K == 1 {
			n = widened(n, x.Shape.C)
		}
		if !lane.Fits(n) {
			return
		}
		compared++
		got, err := lane.Of(x, n)
		check(t, "Of", got, err, want, api.OK)
	})
	if compared != 7 {
		t.Errorf("%d sums are compared", compared)
	}
	// Two channels go in and two go out, each with windows over the border, where nothing is added though ZA is not 0.
	x := api.Tensor{Shape: api.Shape{H: 1, W: 2, C: 2}, Data: []int8{3, 4, 5, 6}}
	n := api.Node{K: 3, S: 1, P: 1, Out: 2, ZA: 2, Bias: []int32{1000, -1000}, W: []int8{
		9, 9, 9, 9, 9, 9, 1, 2, 3, 4, 5, 6, 9, 9, 9, 9, 9, 9,
		9, 9, 9, 9, 9, 9, 0, 0, 0, 1, 0, -1, 9, 9, 9, 9, 9, 9,
	}}
	got, err := lane.Of(x, n)
	check(t, "Of", got, err, api.Acc{Shape: x.Shape, Data: []int32{1050, -1002, 1030, -996}}, api.OK)
}

// P16.2: all windows over all sorts of tensors.
func TestAllWindows(t *testing.T) {
	told := map[api.Errno]int{}
	more := []api.Tensor{sample.Tensor(api.Shape{H: 7, W: 8, C: 3}), sample.Tensor(api.Shape{H: 2, W: 16, C: 2}), sample.Tensor(api.Shape{H: 16, W: 2, C: 2})}
	for _, x := range append(sample.Tensors(), more...) {
		sample.Windows(func(k, stride, p int) {
			for _, out := range []int{1, 2, 5, 64} {
				n := sample.Node(x.Shape.C, k, stride, p, out)
				told[checkSums(t, x, n)]++
				for _, zero := range []int8{math.MinInt8, 0, math.MaxInt8} {
					n.ZA = zero
					checkSums(t, x, n)
				}
			}
		})
	}
	if told[api.OK] == 0 || told[api.ErrArg] == 0 || told[api.ErrShape] == 0 || told[api.ErrWeights] == 0 {
		t.Errorf("only %v was told", told)
	}
}

// P16.2: as many weights, and as many channels below each other, as there may be.
func TestMost(t *testing.T) {
	for _, c := range []struct {
		s      api.Shape
		p, out int
		want   api.Errno
	}{
		{api.Shape{H: 1, W: 1, C: 91}, 1, 20, api.OK}, {api.Shape{H: 1, W: 1, C: 607}, 1, 3, api.ErrWeights},
		{api.Shape{H: 1, W: 1, C: 1024}, 1, 1, api.OK}, {api.Shape{H: 1, W: 1, C: 1024}, 2, 1, api.OK}, {api.Shape{H: 1, W: 1, C: 1024}, 1, 2, api.ErrWeights},
		{api.Shape{H: 2, W: 1, C: 512}, 1, 3, api.OK}, {api.Shape{H: 1, W: 2, C: 512}, 2, 3, api.OK}, {api.Shape{H: 2, W: 1, C: 512}, 1, 4, api.ErrWeights},
		{api.Shape{H: 3, W: 1, C: 341}, 1, 5, api.OK}, {api.Shape{H: 4, W: 1, C: 256}, 2, 7, api.OK}, {api.Shape{H: 16, W: 16, C: 4}, 1, 4, api.OK},
	} {
		n := sample.Node(c.s.C, 3, 1, c.p, c.out)
		if err := checkSums(t, sample.Tensor(c.s), n); err != c.want {
			t.Errorf("%+v with P %d and Out %d: %d, want %d", c.s, c.p, c.out, err, c.want)
		}
		// All numbers and weights as far from 0 as they may be.
		x := api.Tensor{Shape: c.s, Data: slices.Repeat([]int8{127}, c.s.H*c.s.W*c.s.C)}
		n.ZA, n.W = -128, slices.Repeat([]int8{-128}, len(n.W))
		checkSums(t, x, n)
	}
}

// P16.2: one weight or one bias more or less, and none; it is told before that a node does not fit.
func TestWrongWeights(t *testing.T) {
	for _, x := range sample.Tensors() {
		sample.Windows(func(k, stride, p int) {
			right := sample.Node(x.Shape.C, k, stride, p, 2)
			if _, err := conv.Shape(x.Shape, right); err != api.OK {
				return
			}
			sample.Misweighed(right, func(n api.Node) {
				got, err := lane.Of(x, n)
				check(t, "Of wrong weights", got, err, api.Acc{}, api.ErrWeights)
			})
		})
	}
}

// P16.2: what may not be, in order.
func TestErrors(t *testing.T) {
	told := map[api.Errno]int{}
	for _, x := range sample.Tensors() {
		sample.WrongWindows(func(n api.Node) {
			told[checkSums(t, x, n)]++
		})
	}
	if told[api.ErrArg] == 0 || told[api.ErrShape] == 0 || told[api.ErrWeights] == 0 {
		t.Errorf("only %v was told", told)
	}
	for _, x := range sample.WrongTensors() {
		test := func(n api.Node) {
			got, err := lane.Of(x, n)
			check(t, "Of a wrong tensor", got, err, api.Acc{}, api.ErrShape)
		}
		sample.WrongWindows(test)
		test(sample.Node(max(0, min(x.Shape.C, 1025)), 3, 1, 1, 1))
		test(sample.Node(max(0, min(x.Shape.C, 1025)), 1, 1, 0, 1))
	}
	x := sample.Tensor(api.Shape{H: 2, W: 5, C: 1})
	for _, c := range []struct {
		n    api.Node
		want api.Errno
	}{
		{sample.Node(1, 3, 2, 1, 1), api.ErrArg}, {sample.Node(1, 2, 1, 0, 1), api.ErrArg}, {sample.Node(1, 1, 3, 0, 1), api.ErrArg},
		{sample.Node(1, 3, 2, 0, 1), api.ErrShape}, {sample.Node(1, 3, 1, 0, 1), api.ErrShape}, {sample.Node(1, 3, 1, 3, 1), api.ErrArg},
		{sample.Node(2, 3, 2, 1, 1), api.ErrWeights}, {sample.Node(2, 3, 1, 1, 1), api.ErrWeights}, {api.Node{}, api.ErrArg},
	} {
		got, err := lane.Of(x, c.n)
		check(t, "Of", got, err, api.Acc{}, c.want)
	}
}

// P16.2: the other fields of a node do not matter.
func TestOtherFields(t *testing.T) {
	x := sample.Tensor(api.Shape{H: 5, W: 4, C: 3})
	n := sample.Node(3, 3, 1, 1, 2)
	want, err := lane.Of(x, n)
	if err != api.OK {
		t.Fatal(err)
	}
	sample.Others(n, func(other api.Node) {
		got, err := lane.Of(x, other)
		check(t, "Of", got, err, want, api.OK)
	})
}

// mirrored is numbers in rows of so many columns, with the last column first.
func mirrored[N int8 | int32](l []N, columns, channels int) []N {
	var turned []N
	for row := range slices.Chunk(l, columns*channels) {
		for column := columns - 1; column >= 0; column-- {
			turned = append(turned, row[column*channels:(column+1)*channels]...)
		}
	}
	return turned
}

// P16.3
func TestMirrored(t *testing.T) {
	for _, s := range []api.Shape{{H: 1, W: 1, C: 3}, {H: 1, W: 6, C: 2}, {H: 5, W: 1, C: 1}, {H: 6, W: 7, C: 3}, {H: 3, W: 14, C: 1}} {
		for p := range 3 {
			x, n := sample.Tensor(s), sample.Node(s.C, 3, 1, p, 4)
			before, err := lane.Of(x, n)
			x.Data, n.W = mirrored(x.Data, s.W, s.C), mirrored(n.W, 3, s.C)
			after, afterErr := lane.Of(x, n)
			if err == api.OK {
				before.Data = mirrored(before.Data, before.Shape.W, 4)
			}
			check(t, "Of a mirrored tensor", after, afterErr, before, err)
			if p == 2 && err != api.OK {
				t.Errorf("%+v: %d", s, err)
			}
		}
	}
}

// Rule 2: what is passed stays as it is, up to its capacity, and shares nothing with a result, nor do two results.
func TestNothingIsShared(t *testing.T) {
	if !sample.Unshared(lane.Of, api.Shape{H: 3, W: 3, C: 2}, sample.Node(2, 3, 1, 1, 4)) {
		t.Error("what was passed changed, or a result changed with another list")
	}
}
