package tensor_test

import (
	"math"
	"slices"
	"testing"

	"stepwell/api"
	"stepwell/sample"
	"stepwell/tensor"
)

const (
	minInt = math.MinInt64
	maxInt = math.MaxInt64
)

var (
	far         = sample.Far()
	rightShapes = sample.Shapes()
)

func none(t api.Tensor) bool {
	return t.Shape == api.Shape{} && len(t.Data) == 0
}

func same(a, b api.Tensor) bool {
	return a.Shape == b.Shape && slices.Equal(a.Data, b.Data)
}

// eachElement visits the elements in order: row by row, column by column, channel by channel.
func eachElement(s api.Shape, visit func(i, h, w, c int)) {
	i := 0
	for h := range s.H {
		for w := range s.W {
			for c := range s.C {
				visit(i, h, w, c)
				i++
			}
		}
	}
}

// eachWrongElement visits elements that a shape does not have, also some whose position would be another one's.
func eachWrongElement(s api.Shape, visit func(h, w, c int)) {
	for _, n := range far {
		visit(n, 0, 0)
		visit(n, n, n)
		if n < 0 || n >= s.W {
			visit(0, n, 0)
		}
		if n < 0 || n >= s.C {
			visit(0, 0, n)
		}
	}
	visit(s.H, 0, 0)
	visit(0, s.W, 0)
	visit(0, 0, s.C)
	visit(s.H-1, s.W-1, s.C)
	visit(s.H-1, -1, s.C-1)
	visit(s.H-1, s.W-1, -1)
	visit(-1, s.W, s.C-1)
	visit(1, -1, s.C)
}

// P5.1
func TestRight(t *testing.T) {
	for _, s := range rightShapes {
		if !tensor.Right(sample.Tensor(s)) {
			t.Errorf("a tensor of %+v is not right", s)
		}
		if !tensor.Right(api.Tensor{Shape: s, Data: sample.Wide(sample.Numbers(s.H * s.W * s.C))}) {
			t.Errorf("a tensor of %+v with more capacity is not right", s)
		}
	}
	for _, x := range sample.WrongTensors() {
		if tensor.Right(x) {
			t.Errorf("%d numbers in %+v are right", len(x.Data), x.Shape)
		}
	}
	if s := (api.Shape{H: 1, W: 1, C: 1}); tensor.Right(api.Tensor{Shape: s, Data: make([]int8, 0, 1)}) {
		t.Error("a number in the capacity counts")
	}
}

// P5.1
func TestOf(t *testing.T) {
	for _, s := range rightShapes {
		want := sample.Tensor(s)
		got, err := tensor.Of(s, sample.Wide(want.Data))
		if err != api.OK || !same(got, want) {
			t.Errorf("Of(%+v) = %+v, %d, want its numbers", s, got, err)
		}
	}
	for _, x := range sample.WrongTensors() {
		if got, err := tensor.Of(x.Shape, x.Data); err != api.ErrShape || !none(got) {
			t.Errorf("Of(%+v, %d numbers) = %+v, %d, want none, ErrShape", x.Shape, len(x.Data), got, err)
		}
	}
}

// P5.1
func TestFill(t *testing.T) {
	for _, s := range rightShapes {
		for _, v := range []int8{-128, -1, 0, 1, 127} {
			got, err := tensor.Fill(s, v)
			if err != api.OK || got.Shape != s || len(got.Data) != s.H*s.W*s.C || slices.ContainsFunc(got.Data, func(n int8) bool { return n != v }) {
				t.Errorf("Fill(%+v, %d) = %+v, %d", s, v, got, err)
			}
		}
	}
	for _, s := range sample.WrongShapes() {
		for _, v := range []int8{0, 9} {
			if got, err := tensor.Fill(s, v); err != api.ErrShape || !none(got) {
				t.Errorf("Fill(%+v, %d) = %+v, %d, want none, ErrShape", s, v, got, err)
			}
		}
	}
}

// P5.2
func TestAt(t *testing.T) {
	x := api.Tensor{Shape: api.Shape{H: 2, W: 3, C: 2}, Data: []int8{1, 2, 3, 4, 5, 6, -7, -8, -9, -10, 127, -128}}
	for _, c := range []struct {
		h, w, c int
		want    int8
	}{{0, 0, 0, 1}, {0, 0, 1, 2}, {0, 1, 0, 3}, {0, 2, 1, 6}, {1, 0, 0, -7}, {1, 1, 1, -10}, {1, 2, 0, 127}, {1, 2, 1, -128}} {
		if got, ok := tensor.At(x, c.h, c.w, c.c); got != c.want || !ok {
			t.Errorf("At(%d, %d, %d) = %d, %t, want %d, true", c.h, c.w, c.c, got, ok, c.want)
		}
	}
	for _, s := range rightShapes {
		x := sample.Tensor(s)
		eachElement(s, func(i, h, w, c int) {
			if got, ok := tensor.At(x, h, w, c); got != x.Data[i] || !ok {
				t.Fatalf("At(%+v, %d, %d, %d) = %d, %t, want %d, true", s, h, w, c, got, ok, x.Data[i])
			}
		})
	}
}

// noElement holds At and With against an element that there is not.
func noElement(t *testing.T, x api.Tensor, h, w, c int) {
	t.Helper()
	if got, ok := tensor.At(x, h, w, c); got != 0 || ok {
		t.Errorf("At(%+v with %d numbers, %d, %d, %d) = %d, %t, want 0, false", x.Shape, len(x.Data), h, w, c, got, ok)
	}
	if got, ok := tensor.With(x, h, w, c, 5); !none(got) || ok {
		t.Errorf("With(%+v with %d numbers, %d, %d, %d) = %+v, %t, want none, false", x.Shape, len(x.Data), h, w, c, got, ok)
	}
}

// P5.2
func TestNoSuchElement(t *testing.T) {
	for _, s := range rightShapes {
		x := sample.Tensor(s)
		x.Data = sample.Wide(x.Data)
		eachWrongElement(s, func(h, w, c int) { noElement(t, x, h, w, c) })
	}
	for _, x := range sample.WrongTensors() {
		noElement(t, x, 0, 0, 0)
		noElement(t, x, x.Shape.H-1, x.Shape.W-1, x.Shape.C-1)
		for _, n := range far {
			noElement(t, x, n, n, n)
			noElement(t, x, 0, 0, n)
		}
	}
}

// P5.2, P5.4
func TestWith(t *testing.T) {
	for _, s := range rightShapes {
		x := sample.Tensor(s)
		eachElement(s, func(i, h, w, c int) {
			for _, v := range []int8{-128, 0, 127, x.Data[i], x.Data[i] + 1} {
				got, ok := tensor.With(x, h, w, c, v)
				if !ok || got.Shape != s || len(got.Data) != len(x.Data) || got.Data[i] != v {
					t.Fatalf("With(%+v, %d, %d, %d, %d) = %+v, %t", s, h, w, c, v, got, ok)
				}
				if back, ok := tensor.At(got, h, w, c); back != v || !ok {
					t.Fatalf("At of With(%+v, %d, %d, %d, %d) = %d, %t", s, h, w, c, v, back, ok)
				}
				if !slices.Equal(got.Data[:i], x.Data[:i]) || !slices.Equal(got.Data[i+1:], x.Data[i+1:]) {
					t.Fatalf("With(%+v, %d, %d, %d, %d) changed another element", s, h, w, c, v)
				}
				if tensor.Same(got, x) != (v == x.Data[i]) {
					t.Fatalf("With(%+v, %d, %d, %d, %d): Same is %t", s, h, w, c, v, tensor.Same(got, x))
				}
			}
		})
		if !same(x, sample.Tensor(s)) {
			t.Fatalf("With changed the tensor of %+v that was passed", s)
		}
	}
}

// P5.2
func TestSame(t *testing.T) {
	s := api.Shape{H: 1, W: 2, C: 2}
	x := api.Tensor{Shape: s, Data: []int8{1, -2, 3, 4}}
	for _, c := range []struct {
		a, b api.Tensor
		want bool
	}{
		{x, x, true}, {x, api.Tensor{Shape: s, Data: sample.Wide(x.Data)}, true}, {x, api.Tensor{Shape: s, Data: []int8{1, -2, 3, 5}}, false}, {x, api.Tensor{Shape: s, Data: []int8{0, -2, 3, 4}}, false},
		{x, api.Tensor{Shape: s, Data: x.Data[:3]}, false}, {x, api.Tensor{Shape: s, Data: []int8{1, -2, 3, 4, 0}}, false}, {x, api.Tensor{Shape: s}, false},
		{x, api.Tensor{Shape: api.Shape{H: 2, W: 1, C: 2}, Data: x.Data}, false}, {x, api.Tensor{Shape: api.Shape{H: 1, W: 1, C: 4}, Data: x.Data}, false}, {x, api.Tensor{Shape: api.Shape{H: 1, W: 2, C: 3}, Data: x.Data}, false},
		{api.Tensor{}, api.Tensor{}, true}, {api.Tensor{}, api.Tensor{Data: []int8{}}, true}, {api.Tensor{}, api.Tensor{Data: []int8{0}}, false}, {api.Tensor{}, x, false},
		{api.Tensor{Data: []int8{7, 8}}, api.Tensor{Data: []int8{7, 8}}, true}, {api.Tensor{Data: []int8{7, 8}}, api.Tensor{Data: []int8{7, 9}}, false},
		{api.Tensor{Shape: s, Data: []int8{7}}, api.Tensor{Shape: s, Data: []int8{7}}, true}, {api.Tensor{Shape: s, Data: []int8{7}}, api.Tensor{Shape: s, Data: []int8{7, 7}}, false},
		{api.Tensor{Shape: api.Shape{H: minInt}}, api.Tensor{Shape: api.Shape{H: minInt}}, true}, {api.Tensor{Shape: api.Shape{H: minInt}}, api.Tensor{Shape: api.Shape{H: maxInt}}, false},
		{api.Tensor{Shape: api.Shape{H: -1, W: -1, C: 1}}, api.Tensor{Shape: api.Shape{H: -1, W: 1, C: -1}}, false}, {api.Tensor{Shape: api.Shape{H: 1 << 32}}, api.Tensor{}, false},
	} {
		if got := tensor.Same(c.a, c.b); got != c.want {
			t.Errorf("Same(%+v, %+v) = %t, want %t", c.a, c.b, got, c.want)
		}
		if got := tensor.Same(c.b, c.a); got != c.want {
			t.Errorf("Same(%+v, %+v) = %t, want %t", c.b, c.a, got, c.want)
		}
	}
}

// P5.2: for all tensors, valid or not, each is the same as itself alone.
func TestSameOfAll(t *testing.T) {
	all := sample.WrongTensors()
	for _, s := range rightShapes {
		all = append(all, sample.Tensor(s))
	}
	for _, a := range all {
		for _, b := range all {
			if got := tensor.Same(a, b); got != same(a, b) {
				t.Errorf("Same of %+v with %d numbers and %+v with %d is %t", a.Shape, len(a.Data), b.Shape, len(b.Data), got)
			}
		}
	}
}

// P5.3
func TestFlat(t *testing.T) {
	for _, s := range rightShapes {
		x := sample.Tensor(s)
		want := api.Tensor{Shape: api.Shape{H: 1, W: 1, C: len(x.Data)}, Data: x.Data}
		if got, err := tensor.Flat(x); err != api.OK || !same(got, want) || !tensor.Right(got) {
			t.Errorf("Flat of %+v = %+v, %d, want %+v", s, got, err, want)
		}
	}
	for _, x := range sample.WrongTensors() {
		if got, err := tensor.Flat(x); err != api.ErrShape || !none(got) {
			t.Errorf("Flat of %+v with %d numbers = %+v, %d, want none, ErrShape", x.Shape, len(x.Data), got, err)
		}
	}
}

// ranged is what Each yields, which must come with the positions 0, 1, 2 and on.
func ranged(t *testing.T, x api.Tensor) []int8 {
	t.Helper()
	var got []int8
	for i, v := range tensor.Each(x) {
		if i != len(got) {
			t.Fatalf("Each of %+v yields position %d behind %d numbers", x.Shape, i, len(got))
		}
		got = append(got, v)
	}
	return got
}

// P5.3: an invalid tensor has numbers too.
func TestEach(t *testing.T) {
	all := sample.WrongTensors()
	for _, s := range rightShapes {
		all = append(all, sample.Tensor(s))
	}
	for _, x := range all {
		if got := ranged(t, x); !slices.Equal(got, x.Data) {
			t.Errorf("Each of %+v yields %d, want %d", x.Shape, got, x.Data)
		}
		x.Data = sample.Wide(x.Data)
		if got := ranged(t, x); !slices.Equal(got, x.Data) {
			t.Errorf("Each of %+v with more capacity yields %d, want %d", x.Shape, got, x.Data)
		}
	}
}

// P5.3: one that stops gets no more, and one function may be ranged over again.
func TestEachStops(t *testing.T) {
	x := sample.Tensor(api.Shape{H: 2, W: 3, C: 4})
	each := tensor.Each(x)
	for stop := range len(x.Data) {
		var got []int8
		each(func(i int, v int8) bool {
			got = append(got, v)
			return i < stop
		})
		if !slices.Equal(got, x.Data[:stop+1]) {
			t.Errorf("stopped at %d, Each yields %d", stop, got)
		}
	}
	for i, v := range each {
		for j, w := range each {
			if v != x.Data[i] || w != x.Data[j] {
				t.Fatalf("Each within Each yields %d, %d and %d, %d", i, v, j, w)
			}
			if j > i {
				break
			}
		}
	}
}

// P5.3
func TestChannel(t *testing.T) {
	x := api.Tensor{Shape: api.Shape{H: 2, W: 2, C: 3}, Data: []int8{1, 2, 3, 4, 5, 6, 7, 8, 9, 10, 11, -12}}
	for c, want := range [][]int8{{1, 4, 7, 10}, {2, 5, 8, 11}, {3, 6, 9, -12}} {
		if got := tensor.Channel(x, c); !slices.Equal(got, want) {
			t.Errorf("Channel %d = %d, want %d", c, got, want)
		}
	}
	for _, s := range rightShapes {
		x := sample.Tensor(s)
		want := make([][]int8, s.C)
		eachElement(s, func(i, h, w, c int) { want[c] = append(want[c], x.Data[i]) })
		for c := range s.C {
			if got := tensor.Channel(x, c); !slices.Equal(got, want[c]) {
				t.Fatalf("Channel %d of %+v = %d, want %d", c, s, got, want[c])
			}
		}
		for _, c := range append([]int{s.C, s.C + 1, s.C * s.W}, far...) {
			if c >= 0 && c < s.C {
				continue
			}
			if got := tensor.Channel(x, c); len(got) != 0 {
				t.Errorf("Channel %d of %+v = %d, want none", c, s, got)
			}
		}
	}
}

// P5.3
func TestChannelOfWrong(t *testing.T) {
	for _, x := range sample.WrongTensors() {
		for _, c := range append([]int{0, 1, x.Shape.C - 1, x.Shape.C}, far...) {
			if got := tensor.Channel(x, c); len(got) != 0 {
				t.Errorf("Channel %d of %+v with %d numbers = %d, want none", c, x.Shape, len(x.Data), got)
			}
		}
	}
}

// P5.3
func TestReach(t *testing.T) {
	for _, c := range []struct {
		data   []int8
		lo, hi int8
	}{
		{[]int8{3, -4, 0}, -4, 3}, {[]int8{0}, 0, 0}, {[]int8{5}, 5, 5}, {[]int8{-5}, -5, -5}, {[]int8{5, 7}, 5, 7}, {[]int8{7, 5}, 5, 7}, {[]int8{-7, -5, -6}, -7, -5},
		{[]int8{127, -128}, -128, 127}, {[]int8{-128}, -128, -128}, {[]int8{127, 127}, 127, 127}, {[]int8{1, 2, 3, 4, 5, -1}, -1, 5}, {[]int8{9, 2, 3, 4, 5}, 2, 9}, {[]int8{2, 3, 9, 1, 4, 5}, 1, 9},
		{nil, 0, 0}, {[]int8{}, 0, 0},
	} {
		for _, s := range []api.Shape{{H: 1, W: 1, C: len(c.data)}, {H: 1, W: len(c.data), C: 1}, {}, {H: 4, W: 4, C: 4}} {
			if lo, hi := tensor.Reach(api.Tensor{Shape: s, Data: sample.Wide(c.data)}); lo != c.lo || hi != c.hi {
				t.Errorf("Reach of %d in %+v = %d, %d, want %d, %d", c.data, s, lo, hi, c.lo, c.hi)
			}
		}
	}
	for _, s := range rightShapes {
		x := sample.Tensor(s)
		if lo, hi := tensor.Reach(x); lo != slices.Min(x.Data) || hi != slices.Max(x.Data) {
			t.Errorf("Reach of %+v = %d, %d", s, lo, hi)
		}
	}
}

// P5.5
func TestChannelsAreAll(t *testing.T) {
	for _, s := range rightShapes {
		x := sample.Tensor(s)
		channels := make([][]int8, s.C)
		for c := range channels {
			channels[c] = tensor.Channel(x, c)
		}
		var all []int8
		for i := range s.H * s.W {
			for _, channel := range channels {
				all = append(all, channel[i])
			}
		}
		if !slices.Equal(all, x.Data) {
			t.Errorf("the channels of %+v, in turn, are %d, want %d", s, all, x.Data)
		}
	}
}

// results is what all calls make of a tensor.
func results(t *testing.T, x api.Tensor) [][]int8 {
	t.Helper()
	of, err := tensor.Of(x.Shape, x.Data)
	flat, flatErr := tensor.Flat(x)
	with, ok := tensor.With(x, 0, 0, 0, x.Data[0])
	if err != api.OK || flatErr != api.OK || !ok {
		t.Fatalf("%+v: %d, %d, %t", x.Shape, err, flatErr, ok)
	}
	return [][]int8{of.Data, flat.Data, with.Data}
}

// Rule 2: what is passed stays as it is, up to its capacity, and shares nothing with a result.
func TestNothingIsShared(t *testing.T) {
	for _, s := range rightShapes {
		x := sample.Tensor(s)
		x.Data = sample.Wide(x.Data)
		kept := api.Tensor{Shape: s, Data: slices.Clone(x.Data)}
		before := append(slices.Clone(x.Data), 101, 102, 103)
		each := tensor.Each(x)
		made := results(t, x)
		channel := tensor.Channel(x, 0)
		tensor.Reach(x)
		tensor.Same(x, kept)
		tensor.At(x, 0, 0, 0)
		for _, l := range append(made, channel) {
			_ = append(l, 55)
			for i := range l {
				l[i]++
			}
		}
		if !slices.Equal(x.Data[:len(before)], before) {
			t.Fatalf("%+v: the numbers that were passed changed", s)
		}
		made = results(t, x)
		for i := range x.Data {
			x.Data[i]++
		}
		for i, l := range made {
			if !slices.Equal(l, kept.Data) {
				t.Fatalf("%+v: result %d changed with the numbers that were passed", s, i)
			}
		}
		i := 0
		for _, v := range each {
			if v != kept.Data[i] {
				t.Fatalf("%+v: Each yields %d at %d, want %d as it was", s, v, i, kept.Data[i])
			}
			i++
		}
	}
}

// Rules 2 and 5: two results share nothing.
func TestResultsAreNew(t *testing.T) {
	s := api.Shape{H: 2, W: 3, C: 4}
	first, _ := tensor.Fill(s, 7)
	second, _ := tensor.Fill(s, 7)
	clear(first.Data[:cap(first.Data)])
	if third, _ := tensor.Fill(s, 7); !slices.Equal(second.Data, slices.Repeat([]int8{7}, 24)) || !same(second, third) {
		t.Error("Fill changed with another result")
	}
	x := sample.Tensor(s)
	one, two := tensor.Channel(x, 1), tensor.Channel(x, 1)
	clear(one[:cap(one)])
	if !slices.Equal(two, tensor.Channel(x, 1)) || slices.Equal(two, make([]int8, len(two))) {
		t.Error("Channel changed with another result")
	}
}
