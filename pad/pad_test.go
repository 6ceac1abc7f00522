package pad_test

import (
	"math"
	"slices"
	"testing"

	"stepwell/api"
	"stepwell/pad"
	"stepwell/sample"
	"stepwell/tensor"
)

const (
	minInt = math.MinInt64
	maxInt = math.MaxInt64
)

// fillers are what new positions hold.
var fillers = []int8{-128, -1, 0, 5, 127}

// check holds a result against what it should be.
func check(t *testing.T, call string, got api.Tensor, err api.Errno, want api.Tensor, wantErr api.Errno) {
	t.Helper()
	if err != wantErr || !tensor.Same(got, want) {
		t.Fatalf("%s = %+v, %d, want %+v, %d", call, got, err, want, wantErr)
	}
}

// drawn is a tensor of a shape that holds z, and over it t with its first number at the row h and the column w, as far as it lies within.
func drawn(s api.Shape, z int8, t api.Tensor, h, w int) api.Tensor {
	data := slices.Repeat([]int8{z}, s.H*s.W*s.C)
	for i, v := range t.Data {
		row, column := i/t.Shape.C/t.Shape.W, i/t.Shape.C%t.Shape.W
		if row < -h || row >= s.H-h || column < -w || column >= s.W-w {
			continue
		}
		data[((row+h)*s.W+column+w)*s.C+i%t.Shape.C] = v
	}
	return api.Tensor{Shape: s, Data: data}
}

// P9.1: numbers written out.
func TestAroundByHand(t *testing.T) {
	one := api.Tensor{Shape: api.Shape{H: 1, W: 1, C: 1}, Data: []int8{5}}
	got, err := pad.Around(one, 1, 0)
	check(t, "Around of 5", got, err, api.Tensor{Shape: api.Shape{H: 3, W: 3, C: 1}, Data: []int8{0, 0, 0, 0, 5, 0, 0, 0, 0}}, api.OK)
	x := api.Tensor{Shape: api.Shape{H: 1, W: 2, C: 2}, Data: []int8{1, 2, 3, 4}}
	got, err = pad.Around(x, 1, -9)
	check(t, "Around of two channels", got, err, api.Tensor{Shape: api.Shape{H: 3, W: 4, C: 2}, Data: []int8{
		-9, -9, -9, -9, -9, -9, -9, -9,
		-9, -9, 1, 2, 3, 4, -9, -9,
		-9, -9, -9, -9, -9, -9, -9, -9,
	}}, api.OK)
}

// P9.1
func TestCropByHand(t *testing.T) {
	x := api.Tensor{Shape: api.Shape{H: 4, W: 3, C: 2}, Data: []int8{
		1, 2, 3, 4, 5, 6,
		7, 8, 9, 10, 11, 12,
		13, 14, 15, 16, 17, 18,
		19, 20, 21, 22, 23, 24,
	}}
	got, err := pad.Crop(x, 1)
	check(t, "Crop by 1", got, err, api.Tensor{Shape: api.Shape{H: 2, W: 1, C: 2}, Data: []int8{9, 10, 15, 16}}, api.OK)
	got, err = pad.Crop(x, 0)
	check(t, "Crop by 0", got, err, x, api.OK)
	got, err = pad.Crop(x, 2)
	check(t, "Crop by 2", got, err, api.Tensor{}, api.ErrShape)
}

// P9.2
func TestMoveByHand(t *testing.T) {
	x := api.Tensor{Shape: api.Shape{H: 2, W: 3, C: 2}, Data: []int8{
		1, 2, 3, 4, 5, 6,
		7, 8, 9, 10, 11, 12,
	}}
	for _, c := range []struct {
		h, w int
		want []int8
	}{
		{0, 0, x.Data},
		{1, 0, []int8{-7, -7, -7, -7, -7, -7, 1, 2, 3, 4, 5, 6}},
		{-1, 0, []int8{7, 8, 9, 10, 11, 12, -7, -7, -7, -7, -7, -7}},
		{0, 1, []int8{-7, -7, 1, 2, 3, 4, -7, -7, 7, 8, 9, 10}},
		{0, -2, []int8{5, 6, -7, -7, -7, -7, 11, 12, -7, -7, -7, -7}},
		{1, -1, []int8{-7, -7, -7, -7, -7, -7, 3, 4, 5, 6, -7, -7}},
		{2, 0, slices.Repeat([]int8{-7}, 12)},
		{0, -3, slices.Repeat([]int8{-7}, 12)},
	} {
		got, err := pad.Move(x, c.h, c.w, -7)
		check(t, "Move", got, err, api.Tensor{Shape: x.Shape, Data: c.want}, api.OK)
	}
}

// P9.1: all widths, also where the border leaves no valid shape.
func TestAround(t *testing.T) {
	for _, x := range sample.Tensors() {
		for p := range api.MaxPad + 1 {
			s := api.Shape{H: x.Shape.H + 2*p, W: x.Shape.W + 2*p, C: x.Shape.C}
			for _, z := range fillers {
				got, err := pad.Around(x, p, z)
				if s.H > 16 || s.W > 16 || s.H*s.W*s.C > 1024 {
					check(t, "Around", got, err, api.Tensor{}, api.ErrShape)
					continue
				}
				check(t, "Around", got, err, drawn(s, z, x, p, p), api.OK)
			}
		}
	}
}

// P9.1: the greatest shape that a border still fits around, and the next ones.
func TestAroundAtTheLimits(t *testing.T) {
	for _, c := range []struct {
		s    api.Shape
		p    int
		want api.Errno
	}{
		{api.Shape{H: 14, W: 1, C: 1}, 1, api.OK}, {api.Shape{H: 15, W: 1, C: 1}, 1, api.ErrShape}, {api.Shape{H: 1, W: 14, C: 1}, 1, api.OK}, {api.Shape{H: 1, W: 15, C: 1}, 1, api.ErrShape},
		{api.Shape{H: 8, W: 8, C: 4}, 4, api.OK}, {api.Shape{H: 8, W: 8, C: 5}, 4, api.ErrShape}, {api.Shape{H: 9, W: 8, C: 4}, 4, api.ErrShape}, {api.Shape{H: 8, W: 9, C: 4}, 4, api.ErrShape},
		{api.Shape{H: 1, W: 1, C: 113}, 1, api.OK}, {api.Shape{H: 1, W: 1, C: 114}, 1, api.ErrShape}, {api.Shape{H: 16, W: 16, C: 4}, 0, api.OK}, {api.Shape{H: 1, W: 1, C: 1024}, 0, api.OK},
	} {
		got, err := pad.Around(sample.Tensor(c.s), c.p, 3)
		if err != c.want || tensor.Right(got) != (c.want == api.OK) {
			t.Errorf("Around of %+v by %d has the shape %+v, %d, want %d", c.s, c.p, got.Shape, err, c.want)
		}
	}
}

// P9.1
func TestCrop(t *testing.T) {
	for _, x := range append(sample.Tensors(), sample.Tensor(api.Shape{H: 8, W: 9, C: 2}), sample.Tensor(api.Shape{H: 9, W: 8, C: 1}), sample.Tensor(api.Shape{H: 9, W: 9, C: 3})) {
		for p := range api.MaxPad + 1 {
			got, err := pad.Crop(x, p)
			if x.Shape.H <= 2*p || x.Shape.W <= 2*p {
				check(t, "Crop", got, err, api.Tensor{}, api.ErrShape)
				continue
			}
			s := api.Shape{H: x.Shape.H - 2*p, W: x.Shape.W - 2*p, C: x.Shape.C}
			check(t, "Crop", got, err, drawn(s, 0, x, -p, -p), api.OK)
		}
	}
}

// P9.1: a wrong tensor comes first, then a wrong width, and only then the shape that would be left.
func TestOrderOfErrors(t *testing.T) {
	for _, p := range append([]int{0, 1, 4, 5, 6}, sample.Far()...) {
		for _, x := range sample.WrongTensors() {
			got, err := pad.Around(x, p, 1)
			check(t, "Around of a wrong tensor", got, err, api.Tensor{}, api.ErrShape)
			got, err = pad.Crop(x, p)
			check(t, "Crop of a wrong tensor", got, err, api.Tensor{}, api.ErrShape)
		}
		if p >= 0 && p <= 4 {
			continue
		}
		for _, x := range sample.Tensors() {
			got, err := pad.Around(x, p, 1)
			check(t, "Around by a wrong width", got, err, api.Tensor{}, api.ErrArg)
			got, err = pad.Crop(x, p)
			check(t, "Crop by a wrong width", got, err, api.Tensor{}, api.ErrArg)
		}
	}
}

// distances are moves to all sides, with some that would come back if they wrapped.
func distances() []int {
	l := append(sample.Far(), minInt+2, minInt+15, minInt+16, maxInt-15, maxInt-16, -1<<32+1)
	for n := -18; n <= 18; n++ {
		l = append(l, n)
	}
	return l
}

// P9.2
func TestMove(t *testing.T) {
	for _, x := range sample.Tensors() {
		for _, h := range distances() {
			for i, w := range distances() {
				z := fillers[i%len(fillers)]
				got, err := pad.Move(x, h, w, z)
				check(t, "Move", got, err, moved(x, h, w, z), api.OK)
			}
		}
	}
}

// moved draws a tensor elsewhere; what goes farther than any side leaves nothing.
func moved(x api.Tensor, h, w int, z int8) api.Tensor {
	if max(h, w) > api.MaxSide || min(h, w) < -api.MaxSide {
		return drawn(x.Shape, z, api.Tensor{}, 0, 0)
	}
	return drawn(x.Shape, z, x, h, w)
}

// P9.2
func TestMoveOfWrong(t *testing.T) {
	for _, x := range sample.WrongTensors() {
		for _, n := range append(sample.Far(), 0, 1) {
			got, err := pad.Move(x, n, 0, 1)
			check(t, "Move of a wrong tensor", got, err, api.Tensor{}, api.ErrShape)
			got, err = pad.Move(x, 0, n, 0)
			check(t, "Move of a wrong tensor", got, err, api.Tensor{}, api.ErrShape)
		}
	}
}

// P9.3
func TestCropUndoesAround(t *testing.T) {
	tried := 0
	for _, x := range sample.Tensors() {
		for p := range api.MaxPad + 1 {
			wide, err := pad.Around(x, p, 99)
			if err != api.OK {
				continue
			}
			got, err := pad.Crop(wide, p)
			check(t, "Crop of Around", got, err, x, api.OK)
			tried++
		}
	}
	if tried <= len(sample.Shapes()) {
		t.Errorf("only %d tensors had room for a border", tried)
	}
}

// P9.3
func TestMoveForthAndBack(t *testing.T) {
	for _, x := range sample.Tensors() {
		for h := -3; h <= 3; h++ {
			for w := -3; w <= 3; w++ {
				forth, _ := pad.Move(x, h, w, 99)
				got, err := pad.Move(forth, -h, -w, 99)
				if err != api.OK || got.Shape != x.Shape {
					t.Fatalf("moved by %d and %d, and back: %+v, %d", h, w, got.Shape, err)
				}
				for i, v := range got.Data {
					row, column := i/x.Shape.C/x.Shape.W+h, i/x.Shape.C%x.Shape.W+w
					want := x.Data[i]
					if row < 0 || row >= x.Shape.H || column < 0 || column >= x.Shape.W {
						want = 99
					}
					if v != want {
						t.Fatalf("moved by %d and %d, and back: %d at %d of %+v, want %d", h, w, v, i, x.Shape, want)
					}
				}
			}
		}
	}
}

// results is what all calls make of a tensor, also where it stays the same.
func results(t *testing.T, x api.Tensor) []api.Tensor {
	t.Helper()
	var l []api.Tensor
	keep := func(r api.Tensor, err api.Errno) {
		if err != api.OK {
			t.Fatalf("%+v: %d", x.Shape, err)
		}
		l = append(l, r)
	}
	for p := range 2 {
		keep(pad.Around(x, p, 2))
		keep(pad.Crop(x, p))
		keep(pad.Move(x, p, p, 2))
	}
	return l
}

// Rule 2: what is passed stays as it is, up to its capacity, and shares nothing with a result, nor do two results.
func TestNothingIsShared(t *testing.T) {
	for _, s := range []api.Shape{{H: 3, W: 3, C: 1}, {H: 4, W: 5, C: 3}} {
		x := sample.Tensor(s)
		x.Data = sample.Wide(x.Data)
		all := x.Data[:len(x.Data)+3]
		before := slices.Clone(all)
		first, second := results(t, x), results(t, x)
		var want [][]int8
		for i := range first {
			want = append(want, slices.Clone(second[i].Data))
			clear(first[i].Data[:cap(first[i].Data)])
		}
		if !slices.Equal(all, before) {
			t.Fatalf("%+v: the numbers that were passed changed", s)
		}
		clear(all)
		for i := range want {
			if !slices.Equal(second[i].Data, want[i]) {
				t.Fatalf("%+v: result %d changed with another list", s, i)
			}
		}
	}
}
