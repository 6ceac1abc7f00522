package patch_test

import (
	"math"
	"slices"
	"testing"

	"stepwell/api"
	"stepwell/patch"
	"stepwell/sample"
	"stepwell/shape"
	"stepwell/tensor"
)

func check(t *testing.T, got patch.Rows, err api.Errno, want patch.Rows, wantErr api.Errno) {
	t.Helper()
	if err != wantErr || got.Many != want.Many || got.Wide != want.Wide || !slices.Equal(got.Data, want.Data) {
		t.Fatalf("Of = %+v, %d, want %+v, %d", got, err, want, wantErr)
	}
}

func checkBack(t *testing.T, r patch.Rows, s api.Shape, n api.Node, want []int32, wantErr api.Errno) {
	t.Helper()
	if got, err := patch.Back(r, s, n); err != wantErr || !slices.Equal(got, want) {
		t.Fatalf("Back to %+v with K %d, S %d, P %d = %d, %d, want %d, %d", s, n.K, n.S, n.P, got, err, want, wantErr)
	}
}

// node is a window without weights, with another ZA for each side.
func node(k, stride, p int) api.Node {
	return api.Node{K: k, S: stride, P: p, ZA: int8(7*k - 20)}
}

// zeros is the rows of a shape's windows, with 0 everywhere, or what is wrong with them.
func zeros(s api.Shape, n api.Node) (patch.Rows, api.Errno) {
	slid := sample.Slid(s, n, 1)
	if !shape.Right(slid) {
		return patch.Rows{}, api.ErrShape
	}
	r := patch.Rows{Many: slid.H * slid.W, Wide: n.K * n.K * s.C}
	r.Data = make([]int16, r.Many*r.Wide)
	return r, api.OK
}

// spread is the windows of a tensor: each number goes to all rows that it belongs to.
func spread(x api.Tensor, n api.Node) (patch.Rows, api.Errno) {
	r, err := zeros(x.Shape, n)
	if err != api.OK {
		return r, err
	}
	channels := x.Shape.C
	sample.Covered(x.Shape, n, func(cell, window, place int) {
		for c, v := range x.Data[cell*channels : (cell+1)*channels] {
			r.Data[window*r.Wide+place*channels+c] = int16(int(v) - int(n.ZA))
		}
	})
	return r, api.OK
}

// gathered is what Back makes of rows: each position takes from all rows that it belongs to.
func gathered(r patch.Rows, s api.Shape, n api.Node) []int32 {
	sums := make([]int32, s.H*s.W*s.C)
	sample.Covered(s, n, func(cell, window, place int) {
		for c := range s.C {
			sums[cell*s.C+c] += int32(r.Data[window*r.Wide+place*s.C+c])
		}
	})
	return sums
}

// counted is rows whose numbers differ from their neighbours, with both limits of 16 bits among many.
func counted(r patch.Rows) patch.Rows {
	data := make([]int16, len(r.Data))
	for i := range data {
		data[i] = int16(i*10007 - 32768)
	}
	return patch.Rows{Many: r.Many, Wide: r.Wide, Data: data}
}

// P11.1: numbers written out.
func TestOfByHand(t *testing.T) {
	row := api.Tensor{Shape: api.Shape{H: 1, W: 3, C: 1}, Data: []int8{1, 2, 3}}
	got, err := patch.Of(row, api.Node{K: 1, S: 1})
	check(t, got, err, patch.Rows{Many: 3, Wide: 1, Data: []int16{1, 2, 3}}, api.OK)

	// Two channels, and 0 outside though ZA is not 0.
	x := api.Tensor{Shape: api.Shape{H: 2, W: 1, C: 2}, Data: []int8{3, 4, 5, 6}}
	got, err = patch.Of(x, api.Node{K: 2, S: 1, P: 1, ZA: 10})
	check(t, got, err, patch.Rows{Many: 6, Wide: 8, Data: []int16{
		0, 0, 0, 0, 0, 0, -7, -6,
		0, 0, 0, 0, -7, -6, 0, 0,
		0, 0, -7, -6, 0, 0, -5, -4,
		-7, -6, 0, 0, -5, -4, 0, 0,
		0, 0, -5, -4, 0, 0, 0, 0,
		-5, -4, 0, 0, 0, 0, 0, 0,
	}}, api.OK)

	// The greatest differences do not fit 8 bits.
	ends := api.Tensor{Shape: api.Shape{H: 1, W: 1, C: 3}, Data: []int8{-128, 0, 127}}
	got, err = patch.Of(ends, api.Node{K: 1, S: 1, ZA: -128})
	check(t, got, err, patch.Rows{Many: 1, Wide: 3, Data: []int16{0, 128, 255}}, api.OK)
	got, err = patch.Of(ends, api.Node{K: 1, S: 1, ZA: 127})
	check(t, got, err, patch.Rows{Many: 1, Wide: 3, Data: []int16{-255, -127, 0}}, api.OK)
}

// P11.3: numbers written out.
func TestBackByHand(t *testing.T) {
	r := patch.Rows{Many: 2, Wide: 4, Data: []int16{1, 2, 3, 4, 10, 20, 30, 40}}
	checkBack(t, r, api.Shape{H: 1, W: 3, C: 2}, api.Node{K: 1, S: 2}, nil, api.ErrWeights)
	checkBack(t, r, api.Shape{H: 1, W: 3, C: 4}, api.Node{K: 1, S: 2, ZA: 9}, []int32{1, 2, 3, 4, 0, 0, 0, 0, 10, 20, 30, 40}, api.OK)
	checkBack(t, r, api.Shape{H: 2, W: 3, C: 1}, api.Node{K: 2, S: 1}, []int32{1, 12, 20, 3, 34, 40}, api.OK)
	// What lies outside is ignored.
	around := patch.Rows{Many: 4, Wide: 4, Data: []int16{1, 2, 3, 4, 5, 6, 7, 8, 9, 10, 11, 12, 13, 14, 15, 16}}
	checkBack(t, around, api.Shape{H: 1, W: 1, C: 1}, api.Node{K: 2, S: 1, P: 1}, []int32{4 + 7 + 10 + 13}, api.OK)
	// Sums are wider than the numbers.
	most := patch.Rows{Many: 4, Wide: 4, Data: slices.Repeat([]int16{math.MinInt16}, 16)}
	checkBack(t, most, api.Shape{H: 1, W: 1, C: 1}, api.Node{K: 2, S: 1, P: 1}, []int32{-131072}, api.OK)
}

// P11.1, P11.2, P11.3: all windows over all sorts of tensors.
func TestAllWindows(t *testing.T) {
	for _, x := range append(sample.Tensors(), sample.Tensor(api.Shape{H: 7, W: 8, C: 3})) {
		sample.Windows(func(k, stride, p int) {
			n := node(k, stride, p)
			want, wantErr := spread(x, n)
			got, err := patch.Of(x, n)
			check(t, got, err, want, wantErr)
			if err != api.OK {
				checkBack(t, got, x.Shape, n, nil, err)
				return
			}
			for i := range got.Many {
				if row := got.Row(i); !slices.Equal(row, want.Data[i*want.Wide:(i+1)*want.Wide]) {
					t.Fatalf("Row(%d) of %+v with K %d, S %d, P %d = %d", i, x.Shape, k, stride, p, row)
				}
			}
			checkBack(t, got, x.Shape, n, gathered(got, x.Shape, n), api.OK)
			other := counted(got)
			checkBack(t, other, x.Shape, n, gathered(other, x.Shape, n), api.OK)
		})
	}
}

// P11.2: rows that there are not.
func TestNoRow(t *testing.T) {
	r := patch.Rows{Many: 2, Wide: 3, Data: []int16{1, 2, 3, 4, 5, 6}}
	for i, want := range [][]int16{{1, 2, 3}, {4, 5, 6}} {
		if row := r.Row(i); !slices.Equal(row, want) {
			t.Errorf("Row(%d) = %d, want %d", i, row, want)
		}
	}
	for _, i := range append([]int{2, 3}, sample.Far()...) {
		if row := r.Row(i); len(row) != 0 {
			t.Errorf("Row(%d) = %d", i, row)
		}
	}
	for _, wrong := range []patch.Rows{
		{}, {Many: 2, Wide: 3}, {Many: 2, Wide: 3, Data: []int16{1, 2, 3, 4, 5}}, {Many: 2, Wide: 3, Data: []int16{1, 2, 3, 4, 5, 6, 7}},
		{Many: 3, Wide: 3, Data: r.Data}, {Many: 1, Wide: 3, Data: r.Data}, {Many: 2, Wide: 2, Data: r.Data}, {Many: 2, Wide: 4, Data: r.Data},
		{Many: -2, Wide: -3, Data: r.Data}, {Many: -1, Wide: -6, Data: r.Data}, {Many: 0, Wide: 6}, {Many: 6, Wide: 0}, {Many: 6, Wide: 0, Data: r.Data},
		{Many: 1 << 32, Wide: 1 << 32}, {Many: 1 << 62, Wide: 4}, {Many: 1<<62 + 1, Wide: 4, Data: []int16{1, 2, 3, 4}}, {Many: 4, Wide: 1<<62 + 1, Data: []int16{1, 2, 3, 4}},
		{Many: math.MinInt64, Wide: math.MinInt64}, {Many: math.MaxInt64, Wide: math.MaxInt64, Data: []int16{1}}, {Many: math.MinInt64, Wide: 2}, {Many: 2, Wide: math.MinInt64}, {Many: 4, Wide: -1 << 62},
	} {
		for _, i := range append([]int{0, 1, 2, 3, 5}, sample.Far()...) {
			if row := wrong.Row(i); len(row) != 0 {
				t.Errorf("Row(%d) of %+v = %d", i, wrong, row)
			}
		}
	}
}

// P11.2: the greatest numbers of rows, and of numbers in a row, and greater ones.
func TestMostRows(t *testing.T) {
	const most = 1 << 20
	data := make([]int16, most+1)
	for i := range data {
		data[i] = int16(i)
	}
	if row := (patch.Rows{Many: 1, Wide: most, Data: data[:most]}).Row(0); !slices.Equal(row, data[:most]) {
		t.Errorf("the longest row has %d numbers", len(row))
	}
	many := patch.Rows{Many: most, Wide: 1, Data: data[:most]}
	for _, i := range []int{0, 1, most / 2, most - 1} {
		if row := many.Row(i); !slices.Equal(row, data[i:i+1]) {
			t.Errorf("Row(%d) of the most rows = %d", i, row)
		}
	}
	for _, wrong := range []patch.Rows{{Many: 1, Wide: most + 1, Data: data}, {Many: most + 1, Wide: 1, Data: data}, {Many: most + 1}, {Wide: most + 1}} {
		for _, i := range []int{0, 1, most - 1, most, most + 1} {
			if row := wrong.Row(i); len(row) != 0 {
				t.Errorf("Row(%d) of %d rows of %d = %d numbers", i, wrong.Many, wrong.Wide, len(row))
			}
		}
	}
}

// P11.1, P11.3: what Slide says, and before it what is wrong with the tensor or the shape.
func TestWrongWindows(t *testing.T) {
	wrong := 0
	for _, x := range sample.Tensors() {
		sample.WrongWindows(func(n api.Node) {
			_, want := shape.Slide(x.Shape, n.K, n.S, n.P, 1)
			if want == api.OK {
				return
			}
			wrong++
			got, err := patch.Of(x, n)
			check(t, got, err, patch.Rows{}, want)
			checkBack(t, patch.Rows{}, x.Shape, n, nil, want)
			checkBack(t, patch.Rows{Many: 1, Wide: 1, Data: []int16{1}}, x.Shape, n, nil, want)
		})
	}
	if wrong == 0 {
		t.Error("no window is wrong")
	}
	s := api.Shape{H: 2, W: 3, C: 1}
	for _, c := range []struct {
		n    api.Node
		want api.Errno
	}{{api.Node{}, api.ErrArg}, {api.Node{K: 6, S: 1}, api.ErrArg}, {api.Node{K: 2, S: 5}, api.ErrArg}, {api.Node{K: 2, S: 1, P: 2}, api.ErrArg}, {api.Node{K: 3, S: 1}, api.ErrShape}} {
		got, err := patch.Of(sample.Tensor(s), c.n)
		check(t, got, err, patch.Rows{}, c.want)
		checkBack(t, patch.Rows{Many: 2, Wide: 1, Data: []int16{1}}, s, c.n, nil, c.want)
	}
	for _, x := range sample.WrongTensors() {
		test := func(n api.Node) {
			got, err := patch.Of(x, n)
			check(t, got, err, patch.Rows{}, api.ErrShape)
			if !shape.Right(x.Shape) {
				checkBack(t, patch.Rows{Many: 1, Wide: 1, Data: []int16{1}}, x.Shape, n, nil, api.ErrShape)
			}
		}
		sample.WrongWindows(test)
		test(node(1, 1, 0))
		test(node(5, 1, 4))
	}
}

// P11.3: other rows than those of a tensor of the shape.
func TestWrongRows(t *testing.T) {
	for _, s := range append(sample.Shapes(), api.Shape{H: 7, W: 8, C: 3}) {
		sample.Windows(func(k, stride, p int) {
			n := node(k, stride, p)
			right, err := zeros(s, n)
			if err != api.OK {
				return
			}
			checkBack(t, right, s, n, make([]int32, s.H*s.W*s.C), api.OK)
			for _, change := range []func(r *patch.Rows){
				func(r *patch.Rows) { r.Many++ },
				func(r *patch.Rows) { r.Many-- },
				func(r *patch.Rows) { r.Wide++ },
				func(r *patch.Rows) { r.Wide-- },
				func(r *patch.Rows) { r.Many, r.Wide = -r.Many, -r.Wide },
				func(r *patch.Rows) { r.Many, r.Wide = 2*r.Many, 2*r.Wide },
				func(r *patch.Rows) { r.Many = math.MaxInt64 },
				func(r *patch.Rows) { r.Wide = math.MinInt64 },
				func(r *patch.Rows) { r.Wide += 1 << 32 },
				func(r *patch.Rows) { r.Data = r.Data[1:] },
				func(r *patch.Rows) { r.Data = append(slices.Clone(r.Data), 0) },
				func(r *patch.Rows) { r.Data = nil },
				func(r *patch.Rows) { *r = patch.Rows{} },
				func(r *patch.Rows) { r.Many++; r.Data = make([]int16, r.Many*r.Wide) },
				func(r *patch.Rows) { r.Wide++; r.Data = make([]int16, r.Many*r.Wide) },
			} {
				r := right
				change(&r)
				checkBack(t, r, s, n, nil, api.ErrWeights)
			}
		})
	}
}

// P11.1, P11.3: the other fields of a node do not matter, nor does ZA to Back.
func TestOtherFields(t *testing.T) {
	x := sample.Tensor(api.Shape{H: 5, W: 4, C: 3})
	n := node(3, 2, 1)
	want, _ := spread(x, n)
	for _, other := range []api.Node{
		{Kind: api.Conv, Out: 2000, W: sample.Numbers(7)},
		{Kind: api.Flat, A: -1, B: math.MinInt64, Out: -1, ZB: -128, Bias: []int32{5}, Q: api.Quant{Mult: -1, Shift: 99, Zero: 9}, R: api.Quant{Mult: 5, Shift: -1, Zero: 1}, Lo: 127, Hi: -128},
	} {
		other.K, other.S, other.P, other.ZA = n.K, n.S, n.P, n.ZA
		got, err := patch.Of(x, other)
		check(t, got, err, want, api.OK)
		other.ZA++
		checkBack(t, want, x.Shape, other, gathered(want, x.Shape, n), api.OK)
	}
}

// P11.4: windows that do not overlap and cover everything, with a border and without one.
func TestBackOfOf(t *testing.T) {
	covering := 0
	for h := 1; h <= api.MaxSide; h++ {
		for w := 1; w <= api.MaxSide; w++ {
			sample.Windows(func(k, stride, p int) {
				s := api.Shape{H: h, W: w, C: 3}
				if k != stride || (h+2*p)%k != 0 || (w+2*p)%k != 0 {
					return
				}
				covering++
				x, n := sample.Tensor(s), node(k, stride, p)
				r, err := patch.Of(x, n)
				if err != api.OK {
					t.Fatalf("Of %+v with K %d and P %d: %d", s, k, p, err)
				}
				var want []int32
				for _, v := range x.Data {
					want = append(want, int32(v)-int32(n.ZA))
				}
				checkBack(t, r, s, n, want, api.OK)
			})
		}
	}
	if covering < 256 {
		t.Errorf("only %d windows cover a tensor", covering)
	}
}

// Rule 2: what is passed stays as it is, up to its capacity, and shares nothing with a result, nor do two results.
func TestNothingIsShared(t *testing.T) {
	x, n := sample.Tensor(api.Shape{H: 3, W: 2, C: 3}), node(1, 1, 0)
	x.Data, n.ZA = sample.Wide(x.Data), 0
	r, err := patch.Of(x, n)
	again, againErr := patch.Of(x, n)
	if err != api.OK || againErr != api.OK || r.Many != 6 || r.Wide != 3 {
		t.Fatalf("%+v, %d, %d", r, err, againErr)
	}
	clear(again.Data[:cap(again.Data)])
	numbers := slices.Clone(r.Data)
	r.Data = append(r.Data, 7, 8)[:18]
	wide := r.Data[:20]
	for i := range 6 {
		row := r.Row(i)
		row = row[:cap(row)]
		clear(row)
	}
	sums, err := patch.Back(r, x.Shape, n)
	second, secondErr := patch.Back(r, x.Shape, n)
	if err != api.OK || secondErr != api.OK {
		t.Fatal(err, secondErr)
	}
	want := slices.Clone(sums)
	clear(second[:cap(second)])
	if !slices.Equal(wide, append(slices.Clone(numbers), 7, 8)) {
		t.Error("the rows that were passed changed")
	}
	if !tensor.Same(x, sample.Tensor(x.Shape)) || !slices.Equal(x.Data[:21], append(sample.Numbers(18), 101, 102, 103)) {
		t.Error("the tensor that was passed changed")
	}
	clear(x.Data)
	if !slices.Equal(r.Data, numbers) {
		t.Error("the rows changed with the tensor")
	}
	row := r.Row(1)
	clear(r.Data)
	if !slices.Equal(row, numbers[3:6]) || !slices.Equal(sums, want) {
		t.Error("a result changed with the rows")
	}
}
