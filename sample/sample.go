// Package sample has what the tests of several layers are given: scales, shapes, tensors and nodes, valid and not.
package sample

import (
	"math"
	"slices"

	"stepwell/api"
)

// Far is numbers that no row, no column, no channel and no part of a window has.
// Some would fit if they were cut to fewer bits, or multiplied without care.
func Far() []int {
	return []int{
		math.MinInt64, math.MinInt64 + 1, -1 << 62, -1 << 32, -1025, -17, -2, -1,
		1024, 1025, 1 << 31, 1 << 32, 1<<32 + 1, 1 << 62, math.MaxInt64 - 1, math.MaxInt64,
	}
}

// Scales is valid scales, some at each limit.
func Scales() []api.Quant {
	const most = math.MaxInt32
	return []api.Quant{
		{Mult: 1}, {Mult: 1, Zero: 1}, {Mult: 1, Zero: -128}, {Mult: 1, Zero: 127}, {Mult: 1, Shift: 1, Zero: 5}, {Mult: 3, Shift: 1, Zero: -7}, {Mult: 5, Shift: 4, Zero: 9},
		{Mult: 1 << 30, Shift: 30}, {Mult: 1 << 30, Shift: 31, Zero: 3}, {Mult: 1 << 30, Shift: 34, Zero: -4}, {Mult: 1518500250, Shift: 31, Zero: 50}, {Mult: 1518500250, Shift: 40, Zero: 50},
		{Mult: 1, Shift: api.MaxShift, Zero: 5}, {Mult: most, Zero: -3}, {Mult: most, Shift: 31, Zero: 127}, {Mult: most, Shift: api.MaxShift, Zero: -3},
	}
}

// WrongScales is invalid scales.
func WrongScales() []api.Quant {
	const least, most = math.MinInt32, math.MaxInt32
	return []api.Quant{
		{}, {Zero: 5}, {Mult: 0, Shift: 3, Zero: 5}, {Mult: -1, Zero: 5}, {Mult: least, Shift: 31, Zero: 5}, {Mult: -1 << 30, Shift: 30}, {Mult: 1, Shift: -1, Zero: 5},
		{Mult: 1, Shift: api.MaxShift + 1, Zero: 5}, {Mult: 1 << 30, Shift: 64, Zero: 5}, {Mult: most, Shift: math.MinInt64, Zero: -5}, {Mult: most, Shift: math.MaxInt64, Zero: -5},
		{Mult: -7, Shift: -7, Zero: -7}, {Mult: 1, Shift: 1 << 32, Zero: 5}, {Mult: 1 << 30, Shift: 1<<32 + 30, Zero: 5},
	}
}

// Reaches is limits between which numbers lie, some of them exchanged.
func Reaches() [][2]int8 {
	return [][2]int8{{-128, 127}, {0, 127}, {-10, 10}, {5, 5}, {-128, -128}, {127, 127}, {3, -3}, {127, -128}}
}

// Shapes is valid shapes, some at each limit.
func Shapes() []api.Shape {
	return []api.Shape{
		{H: 1, W: 1, C: 1}, {H: 1, W: 1, C: 7}, {H: 1, W: 5, C: 1}, {H: 6, W: 1, C: 1}, {H: 2, W: 3, C: 4}, {H: 4, W: 3, C: 2}, {H: 3, W: 3, C: 3},
		{H: 16, W: 16, C: 4}, {H: 1, W: 1, C: 1024}, {H: 16, W: 1, C: 64}, {H: 1, W: 16, C: 64}, {H: 16, W: 16, C: 1}, {H: 3, W: 1, C: 341},
	}
}

// WrongShapes is invalid shapes.
func WrongShapes() []api.Shape {
	const least, most = math.MinInt64, math.MaxInt64
	return []api.Shape{
		{}, {H: 1, W: 1}, {H: 1, C: 1}, {W: 1, C: 1}, {H: -1, W: -1, C: 1}, {H: -1, W: 1, C: -1}, {H: 1, W: -2, C: -2},
		{H: 17, W: 1, C: 1}, {H: 1, W: 17, C: 1}, {H: 16, W: 16, C: 5}, {H: 1, W: 1, C: 1025},
		{H: 1 << 32, W: 1 << 32, C: 1}, {H: 1 << 62, W: 4, C: 1}, {H: most, W: most, C: most}, {H: least, W: least, C: least},
		{H: least, W: 1, C: 1}, {H: 1, W: 1, C: least}, {H: 1, W: most, C: 1},
	}
}

// Numbers is numbers of which neighbours differ, with both limits among many.
func Numbers(size int) []int8 {
	var l []int8
	for i := range size {
		// Without the quotient, every fourth row of 64 would be the same.
		l = append(l, int8(i*37+i/64-128))
	}
	return l
}

// Wide is the same numbers with others in their capacity, behind their end.
func Wide(l []int8) []int8 {
	return append(slices.Clone(l), 101, 102, 103)[:len(l)]
}

// Tensor is numbers in a shape.
func Tensor(s api.Shape) api.Tensor {
	return api.Tensor{Shape: s, Data: Numbers(s.H * s.W * s.C)}
}

// Tensors is tensors of all Shapes.
func Tensors() []api.Tensor {
	var l []api.Tensor
	for _, s := range Shapes() {
		l = append(l, Tensor(s))
	}
	return l
}

// WrongTensors is tensors that are invalid by their shapes, or by the number of their numbers.
func WrongTensors() []api.Tensor {
	var l []api.Tensor
	for _, s := range WrongShapes() {
		for _, size := range []int{0, 1, 2, 17, 1024, 1025, 1280} {
			l = append(l, api.Tensor{Shape: s, Data: Numbers(size)})
		}
	}
	for _, s := range Shapes() {
		right := s.H * s.W * s.C
		for _, size := range []int{0, right - 1, right + 1, 2 * right} {
			l = append(l, api.Tensor{Shape: s, Data: Numbers(size)})
		}
	}
	return l
}

// Windows visits all sides, steps and borders that a window may have.
func Windows(visit func(k, stride, p int)) {
	for k := 1; k <= api.MaxKernel; k++ {
		for stride := 1; stride <= api.MaxStride; stride++ {
			for p := range k {
				visit(k, stride, p)
			}
		}
	}
}

// WrongWindows visits windows that may not be, each part of them wrong by itself, without weights and with some.
func WrongWindows(visit func(n api.Node)) {
	for _, wrong := range append([]int{0, 5, 6}, Far()...) {
		for _, n := range []api.Node{
			{K: wrong, S: 1, Out: 1}, {K: 3, S: wrong, P: 1, Out: 1}, {K: 3, S: 1, P: wrong, Out: 1}, {K: 3, S: 1, P: 1, Out: wrong},
			{K: wrong, S: wrong, P: wrong, Out: wrong}, {K: wrong, S: 1, P: wrong, Out: 2}, {K: 1, S: wrong, Out: wrong},
		} {
			visit(n)
			n.W, n.Bias = Numbers(9), []int32{1}
			visit(n)
		}
	}
}

// Slid is the shape of a window's positions with some channels, by a window that is moved as far as it goes.
// It is not held against the limits.
func Slid(s api.Shape, n api.Node, channels int) api.Shape {
	r := api.Shape{C: channels}
	for top := -n.P; top+n.K <= s.H+n.P; top += n.S {
		r.H++
	}
	for left := -n.P; left+n.K <= s.W+n.P; left += n.S {
		r.W++
	}
	return r
}

// Covered visits each row and column of a shape, counted together as a cell, with all windows that it is a part of
// and its place within them.
func Covered(s api.Shape, n api.Node, visit func(cell, window, place int)) {
	slid := Slid(s, n, 1)
	for cell := range s.H * s.W {
		for place := range n.K * n.K {
			down, right := cell/s.W+n.P-place/n.K, cell%s.W+n.P-place%n.K
			if down < 0 || right < 0 || down%n.S != 0 || right%n.S != 0 || down/n.S >= slid.H || right/n.S >= slid.W {
				continue
			}
			visit(cell, down/n.S*slid.W+right/n.S, place)
		}
	}
}

// Node is a window of which all weights and biases differ from their neighbours; some sums leave 32 bits.
func Node(channels, k, stride, p, out int) api.Node {
	n := api.Node{K: k, S: stride, P: p, Out: out, ZA: int8(7*k - 20), W: Numbers(out * k * k * channels)}
	for o := range out {
		n.Bias = append(n.Bias, math.MaxInt32-int32(o)*1000003)
	}
	return n
}

// Heavy visits shapes that have one window, with as many weights as a node may have, and with more.
func Heavy(visit func(s api.Shape, n api.Node)) {
	for _, c := range []struct {
		s      api.Shape
		k, out int
	}{
		{api.Shape{H: 1, W: 1, C: 1024}, 1, 16}, {api.Shape{H: 1, W: 1, C: 1024}, 1, 17}, {api.Shape{H: 2, W: 2, C: 256}, 2, 16}, {api.Shape{H: 2, W: 2, C: 256}, 2, 17},
		{api.Shape{H: 4, W: 4, C: 64}, 4, 16}, {api.Shape{H: 4, W: 4, C: 64}, 4, 17}, {api.Shape{H: 1, W: 1, C: 16}, 1, 1024}, {api.Shape{H: 1, W: 1, C: 17}, 1, 1024},
	} {
		visit(c.s, Node(c.s.C, c.k, 1, 0, c.out))
	}
}

// Misweighed visits what a node becomes by one weight or one bias more or less, and by none.
func Misweighed(right api.Node, visit func(n api.Node)) {
	for _, change := range []func(n *api.Node){
		func(n *api.Node) { n.W = n.W[1:] },
		func(n *api.Node) { n.W = append(slices.Clone(n.W), 0) },
		func(n *api.Node) { n.W = n.W[:len(n.W)/2] },
		func(n *api.Node) { n.W = nil },
		func(n *api.Node) { n.Bias = n.Bias[1:] },
		func(n *api.Node) { n.Bias = append(slices.Clone(n.Bias), 0) },
		func(n *api.Node) { n.Bias = nil },
	} {
		n := right
		change(&n)
		visit(n)
	}
}

// Others visits a node with other values in each field that does not tell what its window adds up.
func Others(right api.Node, visit func(n api.Node)) {
	for _, n := range []api.Node{
		{Kind: api.Conv, Hi: 127},
		{Kind: api.Flat, A: -1, B: math.MinInt64, ZB: -128, Q: api.Quant{Mult: -1, Shift: 99, Zero: 9}, R: api.Quant{Mult: 5, Shift: -1, Zero: 1}, Lo: 127, Hi: -128},
	} {
		n.K, n.S, n.P, n.Out, n.ZA, n.W, n.Bias = right.K, right.S, right.P, right.Out, right.ZA, right.W, right.Bias
		visit(n)
	}
}

// Sums visits tensors and nodes whose sums are written out, some of them beyond the limits of 32 bits.
func Sums(visit func(x api.Tensor, n api.Node, want api.Acc)) {
	one := api.Tensor{Shape: api.Shape{H: 1, W: 1, C: 1}, Data: []int8{3}}
	visit(one, api.Node{K: 1, S: 1, Out: 1, ZA: 1, W: []int8{2}, Bias: []int32{10}}, api.Acc{Shape: one.Shape, Data: []int32{14}})

	row := api.Tensor{Shape: api.Shape{H: 3, W: 4, C: 1}, Data: []int8{0, 0, 0, 0, 1, 2, 3, 4, 0, 0, 0, 0}}
	n := api.Node{K: 3, S: 1, Out: 1, W: []int8{0, 0, 0, 1, 10, 100, 0, 0, 0}, Bias: []int32{0}}
	visit(row, n, api.Acc{Shape: api.Shape{H: 1, W: 2, C: 1}, Data: []int32{321, 432}})

	// Two channels go in and three go out; behind the border nothing is added, though ZA is not 0.
	x := api.Tensor{Shape: api.Shape{H: 2, W: 1, C: 2}, Data: []int8{3, 4, 5, 6}}
	n = api.Node{K: 2, S: 2, P: 1, Out: 3, ZA: 2, Bias: []int32{1000, -1000, 7}, W: []int8{
		1, 2, 3, 4, 5, 6, 7, 8,
		-1, -2, -3, -4, -5, -6, -7, -8,
		0, 0, 0, 1, 0, 0, 1, 0,
	}}
	visit(x, n, api.Acc{Shape: api.Shape{H: 2, W: 1, C: 3}, Data: []int32{1023, -1023, 8, 1025, -1025, 11}})

	most := api.Tensor{Shape: api.Shape{H: 1, W: 1, C: 2}, Data: []int8{127, 127}}
	for _, c := range []struct {
		weight     int8
		bias, want int32
	}{
		{127, math.MaxInt32, math.MinInt32 + 64769}, {-128, math.MinInt32, math.MaxInt32 - 65279}, {127, math.MaxInt32 - 64770, math.MaxInt32}, {-128, math.MinInt32 + 65280, math.MinInt32}, {127, -64770, 0},
	} {
		n := api.Node{K: 1, S: 1, Out: 1, ZA: -128, W: []int8{c.weight, c.weight}, Bias: []int32{c.bias}}
		visit(most, n, api.Acc{Shape: one.Shape, Data: []int32{c.want}})
	}
}

// Unshared calls what computes sums, and tells whether no list that was passed changes, up to its capacity, and no
// result shares its numbers with such a list or with another result.
func Unshared(of func(x api.Tensor, n api.Node) (api.Acc, api.Errno), s api.Shape, right api.Node) bool {
	x, n := Tensor(s), right
	x.Data, n.W, n.Bias = Wide(x.Data), Wide(right.W), append(slices.Clone(right.Bias), 77, 78)[:len(right.Bias)]
	first, err := of(x, n)
	second, secondErr := of(x, n)
	if err != api.OK || secondErr != api.OK || len(first.Data) == 0 {
		return false
	}
	want := slices.Clone(second.Data)
	clear(first.Data[:cap(first.Data)])
	kept := slices.Equal(x.Data[:len(x.Data)+3], append(Tensor(s).Data, 101, 102, 103)) &&
		slices.Equal(n.W[:len(n.W)+3], append(slices.Clone(right.W), 101, 102, 103)) &&
		slices.Equal(n.Bias[:len(n.Bias)+2], append(slices.Clone(right.Bias), 77, 78))
	clear(x.Data)
	clear(n.W)
	clear(n.Bias)
	return kept && slices.Equal(second.Data, want)
}
