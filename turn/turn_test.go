package turn_test

import (
	"math"
	"slices"
	"testing"

	"stepwell/api"
	"stepwell/sample"
	"stepwell/tensor"
	"stepwell/turn"
)

func check(t *testing.T, call string, got api.Tensor, err api.Errno, want api.Tensor, wantErr api.Errno) {
	t.Helper()
	if err != wantErr || got.Shape != want.Shape || !slices.Equal(got.Data, want.Data) {
		t.Fatalf("%s = %+v, %d, want %+v, %d", call, got, err, want, wantErr)
	}
}

// quarter is one quarter turn to the left, written as it is told.
func quarter(t *testing.T, x api.Tensor) api.Tensor {
	t.Helper()
	s := api.Shape{H: x.Shape.W, W: x.Shape.H, C: x.Shape.C}
	turned := api.Tensor{Shape: s}
	for h := range s.H {
		for w := range s.W {
			for c := range s.C {
				turned.Data = append(turned.Data, at(t, x, w, x.Shape.W-1-h, c))
			}
		}
	}
	return turned
}

func at(t *testing.T, x api.Tensor, h, w, c int) int8 {
	t.Helper()
	v, ok := tensor.At(x, h, w, c)
	if !ok {
		t.Fatalf("%+v has nothing at %d, %d, %d", x.Shape, h, w, c)
	}
	return v
}

// over is a tensor whose columns come from the last one to the first one.
func over(t *testing.T, x api.Tensor) api.Tensor {
	t.Helper()
	mirrored := api.Tensor{Shape: x.Shape}
	for h := range x.Shape.H {
		for w := range x.Shape.W {
			for c := range x.Shape.C {
				mirrored.Data = append(mirrored.Data, at(t, x, h, x.Shape.W-1-w, c))
			}
		}
	}
	return mirrored
}

// turns is numbers of quarter turns, some at the limits.
func turns() []int {
	l := append([]int{math.MinInt64 + 2, math.MinInt64 + 3, math.MaxInt64 - 2, math.MaxInt64 - 3}, sample.Far()...)
	for n := -9; n <= 9; n++ {
		l = append(l, n)
	}
	return l
}

// left is how many quarter turns to the left, from 0 to 3, come to the same.
func left(n int) int {
	for n < 0 {
		// A multiple of four, and the least integer is one too.
		n -= min(n/4, -1) * 4
	}
	return n % 4
}

// P23.1: numbers written out.
func TestByByHand(t *testing.T) {
	grid := api.Tensor{Shape: api.Shape{H: 2, W: 3, C: 1}, Data: []int8{1, 2, 3, 4, 5, 6}}
	row := api.Tensor{Shape: api.Shape{H: 1, W: 2, C: 1}, Data: []int8{1, 2}}
	pairs := api.Tensor{Shape: api.Shape{H: 2, W: 2, C: 2}, Data: []int8{1, -1, 2, -2, 3, -3, 4, -4}}
	for _, c := range []struct {
		x    api.Tensor
		n    int
		s    api.Shape
		want []int8
	}{
		{row, 1, api.Shape{H: 2, W: 1, C: 1}, []int8{2, 1}}, {row, -1, api.Shape{H: 2, W: 1, C: 1}, []int8{1, 2}}, {row, 2, row.Shape, []int8{2, 1}}, {row, 0, row.Shape, []int8{1, 2}},
		{grid, 0, grid.Shape, []int8{1, 2, 3, 4, 5, 6}}, {grid, 1, api.Shape{H: 3, W: 2, C: 1}, []int8{3, 6, 2, 5, 1, 4}}, {grid, 2, grid.Shape, []int8{6, 5, 4, 3, 2, 1}}, {grid, 3, api.Shape{H: 3, W: 2, C: 1}, []int8{4, 1, 5, 2, 6, 3}},
		{grid, -1, api.Shape{H: 3, W: 2, C: 1}, []int8{4, 1, 5, 2, 6, 3}}, {grid, -2, grid.Shape, []int8{6, 5, 4, 3, 2, 1}}, {grid, -3, api.Shape{H: 3, W: 2, C: 1}, []int8{3, 6, 2, 5, 1, 4}}, {grid, -4, grid.Shape, []int8{1, 2, 3, 4, 5, 6}},
		{grid, math.MinInt64, grid.Shape, []int8{1, 2, 3, 4, 5, 6}}, {grid, math.MaxInt64, api.Shape{H: 3, W: 2, C: 1}, []int8{4, 1, 5, 2, 6, 3}}, {grid, math.MinInt64 + 1, api.Shape{H: 3, W: 2, C: 1}, []int8{3, 6, 2, 5, 1, 4}}, {grid, 1<<32 + 1, api.Shape{H: 3, W: 2, C: 1}, []int8{3, 6, 2, 5, 1, 4}},
		// The channels of a position stay together.
		{pairs, 1, pairs.Shape, []int8{2, -2, 4, -4, 1, -1, 3, -3}}, {pairs, -1, pairs.Shape, []int8{3, -3, 1, -1, 4, -4, 2, -2}},
	} {
		got, err := turn.By(c.x, c.n)
		check(t, "By", got, err, api.Tensor{Shape: c.s, Data: c.want}, api.OK)
	}
}

// P23.1: all sorts of tensors and numbers of turns.
func TestBy(t *testing.T) {
	for _, x := range sample.Tensors() {
		want := []api.Tensor{x}
		for i := range 3 {
			want = append(want, quarter(t, want[i]))
		}
		for _, n := range turns() {
			got, err := turn.By(x, n)
			check(t, "By", got, err, want[left(n)], api.OK)
		}
	}
}

// P23.1
func TestOver(t *testing.T) {
	grid := api.Tensor{Shape: api.Shape{H: 2, W: 3, C: 1}, Data: []int8{1, 2, 3, 4, 5, 6}}
	got, err := turn.Over(grid)
	check(t, "Over", got, err, api.Tensor{Shape: grid.Shape, Data: []int8{3, 2, 1, 6, 5, 4}}, api.OK)
	pairs := api.Tensor{Shape: api.Shape{H: 1, W: 2, C: 3}, Data: []int8{1, 2, 3, 4, 5, 6}}
	got, err = turn.Over(pairs)
	check(t, "Over", got, err, api.Tensor{Shape: pairs.Shape, Data: []int8{4, 5, 6, 1, 2, 3}}, api.OK)
	for _, x := range sample.Tensors() {
		got, err := turn.Over(x)
		check(t, "Over", got, err, over(t, x), api.OK)
	}
}

// P23.2: all eight, in their order.
func TestViews(t *testing.T) {
	grid := api.Tensor{Shape: api.Shape{H: 2, W: 3, C: 1}, Data: []int8{1, 2, 3, 4, 5, 6}}
	views, err := turn.Views(grid)
	if len(views) != 8 || err != api.OK {
		t.Fatalf("Views = %+v, %d", views, err)
	}
	for i, want := range [][]int8{{1, 2, 3, 4, 5, 6}, {3, 6, 2, 5, 1, 4}, {6, 5, 4, 3, 2, 1}, {4, 1, 5, 2, 6, 3}, {3, 2, 1, 6, 5, 4}, {1, 4, 2, 5, 3, 6}, {4, 5, 6, 1, 2, 3}, {6, 3, 5, 2, 4, 1}} {
		s := api.Shape{H: 2 + i%2, W: 3 - i%2, C: 1}
		check(t, "a view", views[i], api.OK, api.Tensor{Shape: s, Data: want}, api.OK)
	}
	for _, x := range sample.Tensors() {
		views, err := turn.Views(x)
		if len(views) != 8 || err != api.OK {
			t.Fatalf("Views of %+v: %d, %d", x.Shape, len(views), err)
		}
		for i, got := range views {
			side := x
			if i >= 4 {
				side = over(t, x)
			}
			want, err := turn.By(side, i%4)
			check(t, "a view", got, err, want, api.OK)
		}
	}
}

// P23.2, P23.4: what comes back has the view, and is the one that there is.
func TestBack(t *testing.T) {
	grid := api.Tensor{Shape: api.Shape{H: 2, W: 3, C: 1}, Data: []int8{1, 2, 3, 4, 5, 6}}
	for view, want := range [][]int8{{1, 2, 3, 4, 5, 6}, {4, 1, 5, 2, 6, 3}, {6, 5, 4, 3, 2, 1}, {3, 6, 2, 5, 1, 4}, {3, 2, 1, 6, 5, 4}, {1, 4, 2, 5, 3, 6}, {4, 5, 6, 1, 2, 3}, {6, 3, 5, 2, 4, 1}} {
		got, err := turn.Back(grid, view)
		check(t, "Back", got, err, api.Tensor{Shape: api.Shape{H: 2 + view%2, W: 3 - view%2, C: 1}, Data: want}, api.OK)
	}
	for _, x := range sample.Tensors() {
		views, _ := turn.Views(x)
		for i, view := range views {
			got, err := turn.Back(view, i)
			check(t, "Back of a view", got, err, x, api.OK)
			first, _ := turn.Back(x, i)
			again, err := turn.Views(first)
			check(t, "the view of Back", again[i], err, x, api.OK)
		}
	}
}

// P23.1, P23.2: a wrong tensor comes before a wrong view.
func TestWrongTensors(t *testing.T) {
	for _, x := range sample.WrongTensors() {
		for _, n := range []int{0, 1, -1, 3, 4, 7, 8, math.MinInt64} {
			got, err := turn.By(x, n)
			check(t, "By of a wrong tensor", got, err, api.Tensor{}, api.ErrShape)
			got, err = turn.Back(x, n)
			check(t, "Back of a wrong tensor", got, err, api.Tensor{}, api.ErrShape)
		}
		got, err := turn.Over(x)
		check(t, "Over of a wrong tensor", got, err, api.Tensor{}, api.ErrShape)
		if views, err := turn.Views(x); len(views) != 0 || err != api.ErrShape {
			t.Fatalf("Views of a wrong tensor = %+v, %d", views, err)
		}
	}
}

// P23.2: views that there are not.
func TestWrongViews(t *testing.T) {
	for _, view := range append([]int{8, 9, 12}, sample.Far()...) {
		for _, x := range sample.Tensors() {
			got, err := turn.Back(x, view)
			check(t, "Back of a wrong view", got, err, api.Tensor{}, api.ErrArg)
		}
	}
}

// P23.3
func TestTurnsAddUp(t *testing.T) {
	for _, x := range sample.Tensors() {
		for n := -5; n <= 5; n++ {
			for m := -5; m <= 5; m++ {
				first, _ := turn.By(x, n)
				want, _ := turn.By(x, n+m)
				got, err := turn.By(first, m)
				check(t, "By and By", got, err, want, api.OK)
			}
		}
		for _, n := range []int{4, -4, 400, math.MinInt64} {
			got, err := turn.By(x, n)
			check(t, "all around", got, err, x, api.OK)
		}
	}
}

// results is what all calls make of a tensor, also where it stays the same.
func results(t *testing.T, x api.Tensor) []api.Tensor {
	t.Helper()
	l, err := turn.Views(x)
	if err != api.OK {
		t.Fatalf("Views of %+v: %d", x.Shape, err)
	}
	for n := range 8 {
		turned, _ := turn.By(x, n)
		back, _ := turn.Back(x, n)
		l = append(l, turned, back)
	}
	mirrored, _ := turn.Over(x)
	return append(l, mirrored)
}

// Rule 2: what is passed stays as it is, up to its capacity, and shares nothing with a result, nor do two results.
func TestNothingIsShared(t *testing.T) {
	for _, s := range []api.Shape{{H: 1, W: 1, C: 3}, {H: 3, W: 3, C: 1}, {H: 4, W: 5, C: 3}} {
		x := sample.Tensor(s)
		x.Data = sample.Wide(x.Data)
		all := x.Data[:len(x.Data)+3]
		before := slices.Clone(all)
		l := results(t, x)
		var want [][]int8
		for _, r := range l {
			want = append(want, slices.Clone(r.Data))
		}
		for i, r := range l {
			if !slices.Equal(r.Data, want[i]) {
				t.Fatalf("%+v: result %d changed with another one", s, i)
			}
			clear(r.Data[:cap(r.Data)])
		}
		if !slices.Equal(all, before) {
			t.Fatalf("%+v: the numbers that were passed changed", s)
		}
		l = results(t, x)
		clear(all)
		for i, r := range l {
			if !slices.Equal(r.Data, want[i]) {
				t.Fatalf("%+v: result %d changed with what was passed", s, i)
			}
		}
	}
}
