package pool_test

import (
	"math"
	"math/big"
	"slices"
	"testing"

	"stepwell/api"
	"stepwell/pool"
	"stepwell/sample"
	"stepwell/shape"
)

const (
	minInt = math.MinInt64
	maxInt = math.MaxInt64
	limit  = 1 << 62
)

func check(t *testing.T, call string, got api.Tensor, err api.Errno, want api.Tensor, wantErr api.Errno) {
	t.Helper()
	if err != wantErr || got.Shape != want.Shape || !slices.Equal(got.Data, want.Data) {
		t.Fatalf("%s = %+v, %d, want %+v, %d", call, got, err, want, wantErr)
	}
}

func checkAll(t *testing.T, x api.Tensor, want []int8, wantErr api.Errno) {
	t.Helper()
	if got, err := pool.All(x); err != wantErr || !slices.Equal(got, want) {
		t.Fatalf("All of %+v = %d, %d, want %d, %d", x.Shape, got, err, want, wantErr)
	}
}

// near is a sum by a number, without limits: the size of the sum and half the number, by the number.
func near(sum, many int) int {
	twice := new(big.Int).Lsh(new(big.Int).Abs(big.NewInt(int64(sum))), 1)
	twice.Add(twice, big.NewInt(int64(many)))
	twice.Quo(twice, new(big.Int).Lsh(big.NewInt(int64(many)), 1))
	if sum < 0 {
		twice.Neg(twice)
	}
	return int(twice.Int64())
}

// P19.1: halves on both sides of 0, and the limits.
func TestNearByHand(t *testing.T) {
	for _, c := range []struct{ sum, many, want int }{
		{-5, 2, -3}, {5, 2, 3}, {4, 2, 2}, {-4, 2, -2}, {1, 2, 1}, {-1, 2, -1}, {0, 1, 0}, {0, 9, 0}, {7, 1, 7}, {-7, 1, -7},
		{1, 3, 0}, {-1, 3, 0}, {2, 3, 1}, {-2, 3, -1}, {4, 3, 1}, {5, 3, 2}, {-5, 3, -2}, {5, 4, 1}, {6, 4, 2}, {-6, 4, -2}, {7, 4, 2}, {-5, 4, -1},
		{limit, 1, limit}, {-limit, 1, -limit}, {limit, 2, limit / 2}, {limit - 1, 2, limit / 2}, {1 - limit, 2, -limit / 2}, {limit, limit, 1}, {-limit, limit, -1},
		{limit, maxInt, 1}, {-limit, maxInt, -1}, {limit - 1, maxInt, 0}, {1 - limit, maxInt, 0}, {limit / 2, limit, 1}, {-limit / 2, limit, -1}, {limit/2 - 1, limit, 0}, {1 - limit/2, limit, 0},
		{limit, limit - 1, 1}, {1, maxInt, 0}, {-1, maxInt, 0}, {limit, 3, 1537228672809129301}, {-limit, 3, -1537228672809129301}, {limit - 1, 3, 1537228672809129301},
	} {
		if got := pool.Near(c.sum, c.many); got != c.want {
			t.Errorf("Near(%d, %d) = %d, want %d", c.sum, c.many, got, c.want)
		}
	}
}

// P19.1, against a calculation without limits.
func TestNear(t *testing.T) {
	numbers := []int{1 << 20, 1<<31 - 1, 1 << 31, 1 << 32, limit/2 - 1, limit / 2, limit/2 + 1, limit/3 - 1, limit / 3, limit/3 + 1, limit - 1, limit}
	for n := range 300 {
		numbers = append(numbers, n)
	}
	for _, sum := range numbers {
		for _, many := range append(numbers, limit+1, maxInt-1, maxInt) {
			if many < 1 {
				continue
			}
			if got, want := pool.Near(sum, many), near(sum, many); got != want {
				t.Fatalf("Near(%d, %d) = %d, want %d", sum, many, got, want)
			}
			if got, want := pool.Near(-sum, many), near(-sum, many); got != want {
				t.Fatalf("Near(%d, %d) = %d, want %d", -sum, many, got, want)
			}
		}
	}
}

// P19.1: a number below 1; sums beyond the limits do not panic.
func TestNearOfNone(t *testing.T) {
	sums := []int{minInt, minInt + 1, -limit, -5, -1, 0, 1, 5, limit, maxInt}
	for _, sum := range sums {
		for _, many := range []int{0, -1, -2, -limit, minInt + 1, minInt} {
			if got := pool.Near(sum, many); got != 0 {
				t.Errorf("Near(%d, %d) = %d, want 0", sum, many, got)
			}
		}
		for _, many := range []int{1, 2, maxInt} {
			pool.Near(sum, many)
		}
	}
}

// P19.2: numbers written out; behind the border there are none, not even zeros.
func TestWindowsByHand(t *testing.T) {
	square := api.Tensor{Shape: api.Shape{H: 2, W: 2, C: 1}, Data: []int8{1, -2, 3, -5}}
	both := api.Tensor{Shape: api.Shape{H: 2, W: 3, C: 2}, Data: []int8{-1, 10, -2, 20, -3, 30, -4, -40, -5, -50, -6, -60}}
	least := api.Tensor{Shape: api.Shape{H: 1, W: 2, C: 1}, Data: []int8{-128, -128}}
	for _, c := range []struct {
		x         api.Tensor
		n         api.Node
		s         api.Shape
		max, mean []int8
	}{
		{square, api.Node{K: 2, S: 2}, api.Shape{H: 1, W: 1, C: 1}, []int8{3}, []int8{-1}},
		{square, api.Node{K: 1, S: 1}, square.Shape, square.Data, square.Data},
		{square, api.Node{K: 1, S: 2}, api.Shape{H: 1, W: 1, C: 1}, []int8{1}, []int8{1}},
		{square, api.Node{K: 2, S: 1, P: 1}, api.Shape{H: 3, W: 3, C: 1}, []int8{1, 1, -2, 3, 3, -2, 3, 3, -5}, []int8{1, -1, -2, 2, -1, -4, 3, -1, -5}},
		{square, api.Node{K: 2, S: 2, P: 1}, api.Shape{H: 2, W: 2, C: 1}, square.Data, square.Data},
		{square, api.Node{K: 3, S: 3, P: 2}, api.Shape{H: 2, W: 2, C: 1}, square.Data, square.Data},
		{both, api.Node{K: 2, S: 1}, api.Shape{H: 1, W: 2, C: 2}, []int8{-1, 20, -2, 30}, []int8{-3, -15, -4, -15}},
		{both, api.Node{K: 3, S: 2, P: 1}, api.Shape{H: 1, W: 2, C: 2}, []int8{-1, 20, -2, 30}, []int8{-3, -15, -4, -15}},
		{both, api.Node{K: 4, S: 4, P: 1}, api.Shape{H: 1, W: 1, C: 2}, []int8{-1, 30}, []int8{-4, -15}},
		{least, api.Node{K: 2, S: 1, P: 1}, api.Shape{H: 2, W: 3, C: 1}, slices.Repeat([]int8{-128}, 6), slices.Repeat([]int8{-128}, 6)},
		{least, api.Node{K: 3, S: 1, P: 1}, least.Shape, least.Data, least.Data},
	} {
		got, err := pool.Max(c.x, c.n)
		check(t, "Max", got, err, api.Tensor{Shape: c.s, Data: c.max}, api.OK)
		got, err = pool.Mean(c.x, c.n)
		check(t, "Mean", got, err, api.Tensor{Shape: c.s, Data: c.mean}, api.OK)
	}
}

// windows is the numbers of each window and channel, found from each number: it goes to all windows it is a part of.
func windows(x api.Tensor, n api.Node, s api.Shape) [][]int {
	l := make([][]int, s.H*s.W*s.C)
	sample.Covered(x.Shape, n, func(cell, window, place int) {
		for c := range s.C {
			l[window*s.C+c] = append(l[window*s.C+c], int(x.Data[cell*s.C+c]))
		}
	})
	return l
}

// pooled is the greatest number and the mean of each window, or what is wrong with the windows' shape.
func pooled(x api.Tensor, n api.Node) (greatest, mean api.Tensor, err api.Errno) {
	s := sample.Slid(x.Shape, n, x.Shape.C)
	if !shape.Right(s) {
		return greatest, mean, api.ErrShape
	}
	greatest.Shape, mean.Shape = s, s
	for _, l := range windows(x, n, s) {
		sum := 0
		for _, v := range l {
			sum += v
		}
		greatest.Data = append(greatest.Data, int8(slices.Max(l)))
		mean.Data = append(mean.Data, int8(near(sum, len(l))))
	}
	return greatest, mean, api.OK
}

func checkBoth(t *testing.T, x api.Tensor, n api.Node, greatest, mean api.Tensor, wantErr api.Errno) {
	t.Helper()
	got, err := pool.Max(x, n)
	check(t, "Max", got, err, greatest, wantErr)
	got, err = pool.Mean(x, n)
	check(t, "Mean", got, err, mean, wantErr)
}

// tensors is all sorts of tensors, and one that is larger than each window.
func tensors() []api.Tensor {
	return append(sample.Tensors(), sample.Tensor(api.Shape{H: 7, W: 8, C: 3}))
}

// P19.2: all windows over all sorts of tensors.
func TestAllWindows(t *testing.T) {
	told := map[api.Errno]int{}
	for _, x := range tensors() {
		sample.Windows(func(k, stride, p int) {
			n := api.Node{K: k, S: stride, P: p}
			greatest, mean, err := pooled(x, n)
			told[err]++
			checkBoth(t, x, n, greatest, mean, err)
		})
	}
	if told[api.OK] == 0 || told[api.ErrShape] == 0 {
		t.Errorf("only %v was told", told)
	}
}

// P19.2: what Slide says.
func TestErrorsOfSlide(t *testing.T) {
	told := map[api.Errno]int{}
	for _, x := range sample.Tensors() {
		sample.WrongWindows(func(n api.Node) {
			_, want := shape.Slide(x.Shape, n.K, n.S, n.P, x.Shape.C)
			if want == api.OK {
				return
			}
			told[want]++
			checkBoth(t, x, n, api.Tensor{}, api.Tensor{}, want)
		})
	}
	if told[api.ErrArg] == 0 || told[api.ErrShape] == 0 {
		t.Errorf("only %v was told", told)
	}
	x := sample.Tensor(api.Shape{H: 2, W: 3, C: 1})
	for _, c := range []struct {
		n    api.Node
		want api.Errno
	}{
		{api.Node{}, api.ErrArg}, {api.Node{K: 6, S: 1}, api.ErrArg}, {api.Node{K: 2, S: 5}, api.ErrArg}, {api.Node{K: 2, S: 1, P: 2}, api.ErrArg}, {api.Node{K: 2, S: 1, P: -1}, api.ErrArg},
		{api.Node{K: 3, S: 1}, api.ErrShape}, {api.Node{K: 3, S: 5}, api.ErrArg}, {api.Node{K: 5, S: 1, P: 1}, api.ErrShape},
	} {
		checkBoth(t, x, c.n, api.Tensor{}, api.Tensor{}, c.want)
	}
	// A border may make more windows than a tensor may have numbers.
	checkBoth(t, sample.Tensor(api.Shape{H: 16, W: 16, C: 4}), api.Node{K: 2, S: 1, P: 1}, api.Tensor{}, api.Tensor{}, api.ErrShape)
}

// P19.2, P19.3: a wrong tensor comes before all that may be wrong with a node.
func TestWrongTensors(t *testing.T) {
	for _, x := range sample.WrongTensors() {
		checkAll(t, x, nil, api.ErrShape)
		checkBoth(t, x, api.Node{K: 1, S: 1}, api.Tensor{}, api.Tensor{}, api.ErrShape)
		sample.WrongWindows(func(n api.Node) {
			checkBoth(t, x, n, api.Tensor{}, api.Tensor{}, api.ErrShape)
		})
	}
}

// P19.2: the other fields of a node do not matter: not its Kind, its weights, its scales or its limits.
func TestOtherFields(t *testing.T) {
	x := sample.Tensor(api.Shape{H: 5, W: 4, C: 3})
	n := api.Node{K: 3, S: 2, P: 1}
	greatest, mean, _ := pooled(x, n)
	for _, own := range []api.Node{n, {K: 3, S: 2, P: 1, ZA: 50, W: sample.Numbers(7), Bias: []int32{9}}} {
		sample.Others(own, func(other api.Node) {
			for _, out := range append([]int{0, 1, 3}, sample.Far()...) {
				other.Out = out
				checkBoth(t, x, other, greatest, mean, api.OK)
			}
		})
	}
}

// P19.3: numbers written out, and all sorts of tensors.
func TestAll(t *testing.T) {
	checkAll(t, api.Tensor{Shape: api.Shape{H: 2, W: 2, C: 1}, Data: []int8{1, -2, 3, -5}}, []int8{-1}, api.OK)
	checkAll(t, api.Tensor{Shape: api.Shape{H: 1, W: 2, C: 3}, Data: []int8{1, -1, 127, 2, -2, 127}}, []int8{2, -2, 127}, api.OK)
	checkAll(t, api.Tensor{Shape: api.Shape{H: 3, W: 1, C: 2}, Data: []int8{1, -128, 0, -128, 0, -127}}, []int8{0, -128}, api.OK)
	checkAll(t, api.Tensor{Shape: api.Shape{H: 16, W: 16, C: 4}, Data: slices.Repeat([]int8{-128, 127, 0, -1}, 256)}, []int8{-128, 127, 0, -1}, api.OK)
	for _, x := range tensors() {
		var want []int8
		for c := range x.Shape.C {
			sum := 0
			for cell := range x.Shape.H * x.Shape.W {
				sum += int(x.Data[cell*x.Shape.C+c])
			}
			want = append(want, int8(near(sum, x.Shape.H*x.Shape.W)))
		}
		checkAll(t, x, want, api.OK)
	}
}

// P19.3: All is the mean of a window that has a whole tensor.
func TestAllLikeMean(t *testing.T) {
	for side := 1; side <= api.MaxKernel; side++ {
		x := sample.Tensor(api.Shape{H: side, W: side, C: 7})
		mean, err := pool.Mean(x, api.Node{K: side, S: 1})
		if err != api.OK {
			t.Fatal(err)
		}
		checkAll(t, x, mean.Data, api.OK)
	}
}

// P19.4
func TestMeanAndMax(t *testing.T) {
	for _, x := range tensors() {
		sample.Windows(func(k, stride, p int) {
			n := api.Node{K: k, S: stride, P: p}
			greatest, err := pool.Max(x, n)
			mean, meanErr := pool.Mean(x, n)
			if err != meanErr || greatest.Shape != mean.Shape {
				t.Fatalf("Max and Mean of %+v with %+v: %d and %d, %+v and %+v", x.Shape, n, err, meanErr, greatest.Shape, mean.Shape)
			}
			if err != api.OK {
				return
			}
			for i, l := range windows(x, n, greatest.Shape) {
				if mean.Data[i] > greatest.Data[i] {
					t.Fatalf("the mean of %d is %d, above %d", l, mean.Data[i], greatest.Data[i])
				}
				if len(l) == 1 && (int(mean.Data[i]) != l[0] || int(greatest.Data[i]) != l[0]) {
					t.Fatalf("the mean of %d is %d, the maximum %d", l, mean.Data[i], greatest.Data[i])
				}
			}
		})
	}
}

// Rule 2: what is passed stays as it is, up to its capacity, and shares nothing with a result, nor do two results.
func TestNothingIsShared(t *testing.T) {
	n := api.Node{K: 1, S: 1, W: []int8{5}, Bias: []int32{6}}
	for name, of := range map[string]func(x api.Tensor) []int8{
		"Max":  func(x api.Tensor) []int8 { r, _ := pool.Max(x, n); return r.Data },
		"Mean": func(x api.Tensor) []int8 { r, _ := pool.Mean(x, n); return r.Data },
		"All":  func(x api.Tensor) []int8 { r, _ := pool.All(x); return r },
	} {
		x := sample.Tensor(api.Shape{H: 1, W: 1, C: 9})
		kept := slices.Clone(x.Data)
		x.Data = sample.Wide(x.Data)
		first, second := of(x), of(x)
		clear(first[:cap(first)])
		if !slices.Equal(x.Data[:12], append(slices.Clone(kept), 101, 102, 103)) {
			t.Errorf("%s or its result changed what was passed: %d", name, x.Data[:12])
		}
		clear(x.Data)
		if !slices.Equal(second, kept) {
			t.Errorf("a result of %s changed with another list: %d", name, second)
		}
	}
	if n.W[0] != 5 || n.Bias[0] != 6 {
		t.Error("the node changed")
	}
}
