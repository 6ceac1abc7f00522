package depth_test

import (
	"math"
	"reflect"
	"slices"
	"testing"

	"stepwell/api"
	"stepwell/conv"
	"stepwell/depth"
	"stepwell/sample"
	"stepwell/shape"
)

func check(t *testing.T, call string, got api.Acc, err api.Errno, want api.Acc, wantErr api.Errno) {
	t.Helper()
	if err != wantErr || got.Shape != want.Shape || !slices.Equal(got.Data, want.Data) {
		t.Fatalf("%s = %+v, %d, want %+v, %d", call, got, err, want, wantErr)
	}
}

func checkShape(t *testing.T, s api.Shape, n api.Node, want api.Shape, wantErr api.Errno) {
	t.Helper()
	if got, err := depth.Shape(s, n); err != wantErr || got != want {
		t.Fatalf("Shape of %+v with K %d, S %d, P %d, %d weights and %d biases = %+v, %d, want %+v, %d", s, n.K, n.S, n.P, len(n.W), len(n.Bias), got, err, want, wantErr)
	}
}

// node is a window with weights for some channels each; what it has as Out does not matter.
func node(channels, k, stride, p int) api.Node {
	n := sample.Node(1, k, stride, p, channels)
	n.Out = 3 - channels
	return n
}

// slid is the shape of a node's sums, or what is wrong with it.
func slid(s api.Shape, n api.Node) (api.Shape, api.Errno) {
	r := sample.Slid(s, n, s.C)
	if !shape.Right(r) {
		return api.Shape{}, api.ErrShape
	}
	if len(n.W) > api.MaxWeights {
		return api.Shape{}, api.ErrWeights
	}
	return r, api.OK
}

// spread is the sums of a node: each number goes to all sums that it is a part of, without a limit.
func spread(x api.Tensor, n api.Node, s api.Shape) api.Acc {
	sums := make([]int64, s.H*s.W*s.C)
	for i := range sums {
		sums[i] = int64(n.Bias[i%s.C])
	}
	sample.Covered(x.Shape, n, func(cell, window, place int) {
		for c, v := range x.Data[cell*s.C : (cell+1)*s.C] {
			sums[window*s.C+c] += int64(n.W[c*n.K*n.K+place]) * (int64(v) - int64(n.ZA))
		}
	})
	a := api.Acc{Shape: s}
	for _, v := range sums {
		a.Data = append(a.Data, int32(v))
	}
	return a
}

// P17.2: numbers written out.
func TestOfByHand(t *testing.T) {
	x := api.Tensor{Shape: api.Shape{H: 1, W: 1, C: 2}, Data: []int8{2, 3}}
	got, err := depth.Of(x, api.Node{K: 1, S: 1, W: []int8{10, 100}, Bias: []int32{1, 1}})
	check(t, "Of", got, err, api.Acc{Shape: x.Shape, Data: []int32{21, 301}}, api.OK)

	row := api.Tensor{Shape: api.Shape{H: 3, W: 4, C: 1}, Data: []int8{0, 0, 0, 0, 1, 2, 3, 4, 0, 0, 0, 0}}
	n := api.Node{K: 3, S: 1, W: []int8{0, 0, 0, 1, 10, 100, 0, 0, 0}, Bias: []int32{0}}
	got, err = depth.Of(row, n)
	check(t, "Of", got, err, api.Acc{Shape: api.Shape{H: 1, W: 2, C: 1}, Data: []int32{321, 432}}, api.OK)

	// Behind the border nothing is added, though ZA is not 0.
	x = api.Tensor{Shape: api.Shape{H: 2, W: 1, C: 2}, Data: []int8{3, 4, 5, 6}}
	n = api.Node{K: 2, S: 2, P: 1, ZA: 2, Bias: []int32{100, -100}, W: []int8{1, 2, 3, 4, 5, 6, 7, 8}}
	got, err = depth.Of(x, n)
	check(t, "Of", got, err, api.Acc{Shape: x.Shape, Data: []int32{104, -84, 106, -76}}, api.OK)
}

// P17.2: sums that go on from the other end of 32 bits.
func TestSumsGoRound(t *testing.T) {
	x := api.Tensor{Shape: api.Shape{H: 2, W: 2, C: 3}, Data: slices.Repeat([]int8{127}, 12)}
	n := api.Node{K: 2, S: 1, ZA: -128, Bias: []int32{math.MaxInt32, math.MinInt32, 129540}}
	for _, weight := range []int8{127, -128, -127} {
		n.W = append(n.W, weight, weight, weight, weight)
	}
	got, err := depth.Of(x, n)
	check(t, "Of", got, err, api.Acc{Shape: api.Shape{H: 1, W: 1, C: 3}, Data: []int32{math.MinInt32 + 129539, math.MaxInt32 - 130559, 0}}, api.OK)
}

// P17.1, P17.2: all windows over all sorts of tensors.
func TestAllWindows(t *testing.T) {
	told := map[api.Errno]int{}
	for _, x := range append(sample.Tensors(), sample.Tensor(api.Shape{H: 7, W: 8, C: 3})) {
		sample.Windows(func(k, stride, p int) {
			n := node(x.Shape.C, k, stride, p)
			s, wantErr := slid(x.Shape, n)
			told[wantErr]++
			checkShape(t, x.Shape, n, s, wantErr)
			var want api.Acc
			if wantErr == api.OK {
				want = spread(x, n, s)
			}
			got, err := depth.Of(x, n)
			check(t, "Of", got, err, want, wantErr)
		})
	}
	if told[api.OK] == 0 || told[api.ErrShape] == 0 || told[api.ErrWeights] == 0 {
		t.Errorf("only %v was told", told)
	}
}

// P17.1: as many weights as a node may have, and more, though they are as many as the window asks for.
func TestMostWeights(t *testing.T) {
	for _, c := range []struct {
		channels, k, p int
		want           api.Errno
	}{
		{1024, 4, 2, api.OK}, {655, 5, 2, api.OK}, {656, 5, 2, api.ErrWeights}, {1024, 5, 2, api.ErrWeights},
	} {
		x, n := sample.Tensor(api.Shape{H: 1, W: 1, C: c.channels}), node(c.channels, c.k, 4, c.p)
		s, want := api.Shape{}, api.Acc{}
		if c.want == api.OK {
			s, want = x.Shape, spread(x, n, x.Shape)
		}
		checkShape(t, x.Shape, n, s, c.want)
		got, err := depth.Of(x, n)
		check(t, "Of the most weights", got, err, want, c.want)
	}
}

// P17.1: one weight or one bias more or less, and none, or as many as a window of conv has.
func TestWrongWeights(t *testing.T) {
	for _, x := range sample.Tensors() {
		sample.Windows(func(k, stride, p int) {
			right := node(x.Shape.C, k, stride, p)
			if _, err := slid(x.Shape, right); err != api.OK {
				return
			}
			wrong := func(n api.Node) {
				checkShape(t, x.Shape, n, api.Shape{}, api.ErrWeights)
				got, err := depth.Of(x, n)
				check(t, "Of wrong weights", got, err, api.Acc{}, api.ErrWeights)
			}
			sample.Misweighed(right, wrong)
			if x.Shape.C > 1 {
				wrong(sample.Node(x.Shape.C, k, stride, p, 1))
				wrong(sample.Node(x.Shape.C, k, stride, p, x.Shape.C))
			}
		})
	}
}

// P17.1: what Slide says comes before what the weights are.
func TestErrorsOfSlide(t *testing.T) {
	wrong := 0
	for _, x := range sample.Tensors() {
		sample.WrongWindows(func(n api.Node) {
			_, want := shape.Slide(x.Shape, n.K, n.S, n.P, x.Shape.C)
			if want == api.OK {
				return
			}
			wrong++
			checkShape(t, x.Shape, n, api.Shape{}, want)
			got, err := depth.Of(x, n)
			check(t, "Of a wrong window", got, err, api.Acc{}, want)
		})
	}
	if wrong == 0 {
		t.Error("no window is wrong")
	}
	s := api.Shape{H: 2, W: 3, C: 1}
	checkShape(t, s, api.Node{K: 6, S: 1}, api.Shape{}, api.ErrArg)
	checkShape(t, s, api.Node{K: 2, S: 5}, api.Shape{}, api.ErrArg)
	checkShape(t, s, api.Node{K: 2, S: 1, P: 2}, api.Shape{}, api.ErrArg)
	checkShape(t, s, api.Node{K: 3, S: 1}, api.Shape{}, api.ErrShape)
	checkShape(t, s, api.Node{K: 1, S: 1}, api.Shape{}, api.ErrWeights)
}

// P17.1, P17.2: a wrong shape or a wrong tensor comes before all that may be wrong with a node.
func TestWrongTensors(t *testing.T) {
	for _, x := range sample.WrongTensors() {
		sample.WrongWindows(func(n api.Node) {
			if !shape.Right(x.Shape) {
				checkShape(t, x.Shape, n, api.Shape{}, api.ErrShape)
			}
			got, err := depth.Of(x, n)
			check(t, "Of a wrong tensor", got, err, api.Acc{}, api.ErrShape)
		})
		channels := max(0, min(x.Shape.C, 1025))
		n := api.Node{K: 1, S: 1, W: sample.Numbers(channels), Bias: make([]int32, channels)}
		got, err := depth.Of(x, n)
		check(t, "Of a wrong tensor", got, err, api.Acc{}, api.ErrShape)
	}
}

// P17.1, P17.2: the other fields of a node do not matter, Out least of all.
func TestOtherFields(t *testing.T) {
	x := sample.Tensor(api.Shape{H: 5, W: 4, C: 3})
	n := node(3, 3, 2, 1)
	s, _ := slid(x.Shape, n)
	want := spread(x, n, s)
	sample.Others(n, func(other api.Node) {
		for _, out := range append([]int{0, 1, 3, 64}, sample.Far()...) {
			other.Out = out
			checkShape(t, x.Shape, other, s, api.OK)
			got, err := depth.Of(x, other)
			check(t, "Of", got, err, want, api.OK)
		}
	})
	// What stands for 0 matters to the sums alone.
	n.ZA++
	checkShape(t, x.Shape, n, s, api.OK)
	got, err := depth.Of(x, n)
	check(t, "Of", got, err, spread(x, n, s), api.OK)
}

func checkWide(t *testing.T, n api.Node, channels int, want api.Node, wantErr api.Errno) {
	t.Helper()
	if len(want.W) == 0 {
		want.W = nil
	}
	if got, err := depth.Wide(n, channels); err != wantErr || !reflect.DeepEqual(got, want) {
		t.Fatalf("Wide of K %d, %d weights and %d biases with %d channels = %+v, %d, want %+v, %d", n.K, len(n.W), len(n.Bias), channels, got, err, want, wantErr)
	}
}

// P17.3: numbers written out, and all other fields as they were.
func TestWideByHand(t *testing.T) {
	n := api.Node{
		Kind: api.Depth, A: 5, B: 6, K: 2, S: 9, P: -7, Out: 77, ZA: 3, ZB: 4, W: []int8{1, 2, 3, 4, 5, 6, 7, 8}, Bias: []int32{70, 80},
		Q: api.Quant{Mult: 1, Shift: 2, Zero: 3}, R: api.Quant{Mult: 4, Shift: 5, Zero: 6}, Lo: 9, Hi: 8,
	}
	want := n
	want.Kind, want.Out = api.Conv, 2
	want.W = []int8{1, 0, 2, 0, 3, 0, 4, 0, 0, 5, 0, 6, 0, 7, 0, 8}
	checkWide(t, n, 2, want, api.OK)
	checkWide(t, api.Node{K: 1, W: []int8{-128}, Bias: []int32{-1}}, 1, api.Node{Kind: api.Conv, K: 1, Out: 1, W: []int8{-128}, Bias: []int32{-1}}, api.OK)
}

// P17.3: all sides and all channels, as many weights as there may be, and more.
func TestWide(t *testing.T) {
	most := map[int]int{}
	for k := 1; k <= api.MaxKernel; k++ {
		for channels := 1; channels <= api.MaxChan; channels++ {
			n := node(channels, k, 1, 0)
			if channels*channels*k*k > api.MaxWeights {
				checkWide(t, n, channels, api.Node{}, api.ErrWeights)
				continue
			}
			most[k] = channels
			want := n
			want.Kind, want.Out, want.W = api.Conv, channels, nil
			for o := range channels {
				for at := range k * k {
					for c := range channels {
						if c == o {
							want.W = append(want.W, n.W[o*k*k+at])
						} else {
							want.W = append(want.W, 0)
						}
					}
				}
			}
			checkWide(t, n, channels, want, api.OK)
		}
	}
	if want := map[int]int{1: 64, 2: 64, 3: 42, 4: 32, 5: 25}; !reflect.DeepEqual(most, want) {
		t.Errorf("the most channels of each side are %v, want %v", most, want)
	}
}

// P17.3: channels and sides beyond their limits, and other numbers of weights and biases.
func TestWrongWide(t *testing.T) {
	for _, wrong := range append([]int{0, 6, 65, 66, 128, 256}, sample.Far()...) {
		for right := 1; right <= 3; right++ {
			checkWide(t, node(right, right, 1, 0), wrong, api.Node{}, api.ErrWeights)
			n := node(right, right, 1, 0)
			n.K = wrong
			checkWide(t, n, right, api.Node{}, api.ErrWeights)
			checkWide(t, n, wrong, api.Node{}, api.ErrWeights)
		}
		if wrong >= 0 && wrong <= 256 {
			checkWide(t, api.Node{K: 1, W: make([]int8, wrong), Bias: make([]int32, wrong+1)}, wrong, api.Node{}, api.ErrWeights)
		}
		if wrong == 0 || wrong >= 65 && wrong <= 256 {
			checkWide(t, node(wrong, 1, 1, 0), wrong, api.Node{}, api.ErrWeights)
		}
		if wrong == 0 || wrong == 6 || wrong == -1 || wrong == -2 {
			n := node(2, max(wrong, -wrong), 1, 0)
			n.K = wrong
			checkWide(t, n, 2, api.Node{}, api.ErrWeights)
		}
	}
	for k := 1; k <= api.MaxKernel; k++ {
		for _, channels := range []int{1, 2, 3, 25} {
			sample.Misweighed(node(channels, k, 1, 0), func(n api.Node) {
				checkWide(t, n, channels, api.Node{}, api.ErrWeights)
			})
			checkWide(t, node(channels, k, 1, 0), channels+1, api.Node{}, api.ErrWeights)
			checkWide(t, node(channels, k, 1, 0), channels-1, api.Node{}, api.ErrWeights)
		}
	}
}

// P17.4
func TestWideSums(t *testing.T) {
	compared := 0
	for _, x := range append(sample.Tensors(), sample.Tensor(api.Shape{H: 7, W: 8, C: 3})) {
		sample.Windows(func(k, stride, p int) {
			n := node(x.Shape.C, k, stride, p)
			wide, err := depth.Wide(n, x.Shape.C)
			if err != api.OK {
				return
			}
			compared++
			want, wantErr := depth.Of(x, n)
			got, err := conv.Of(x, wide)
			check(t, "conv.Of the wide node", got, err, want, wantErr)
		})
	}
	if compared == 0 {
		t.Error("nothing is compared")
	}
}

// Rule 2: what is passed stays as it is, up to its capacity, and shares nothing with a result, nor do two results.
func TestNothingIsShared(t *testing.T) {
	if !sample.Unshared(depth.Of, api.Shape{H: 3, W: 3, C: 2}, node(2, 3, 1, 1)) {
		t.Error("what was passed changed, or a result of Of changed with another list")
	}
	for channels := 1; channels <= 2; channels++ {
		n := node(channels, 1, 1, 0)
		n.W, n.Bias = sample.Wide(n.W), append(slices.Clone(n.Bias), 77)[:channels]
		before := slices.Clone(n.W[:channels+3])
		first, _ := depth.Wide(n, channels)
		second, _ := depth.Wide(n, channels)
		w, bias := slices.Clone(second.W), slices.Clone(second.Bias)
		clear(first.W[:cap(first.W)])
		clear(first.Bias[:cap(first.Bias)])
		if !slices.Equal(n.W[:channels+3], before) || n.Bias[0] != math.MaxInt32 || n.Bias[:channels+1][channels] != 77 {
			t.Error("what was passed to Wide changed")
		}
		clear(n.W)
		clear(n.Bias)
		if !slices.Equal(second.W, w) || !slices.Equal(second.Bias, bias) {
			t.Error("a result of Wide changed with another list")
		}
	}
}
