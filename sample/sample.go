// Package sample has what the tests of several layers are given: shapes and tensors, valid and not.
package sample

import (
	"math"
	"slices"

	"stepwell/api"
)

// Far is numbers that no row, no column, no channel and no part of a window has.
// Some would fit if they were cut to fewer bits, or multiplied without care.
func Far() []int {
	return []int{
		math.MinInt64, math.MinInt64 + 1, -1 << 62, -1 << 32, -1025, -17, -2, -1,
		1024, 1025, 1 << 31, 1 << 32, 1<<32 + 1, 1 << 62, math.MaxInt64 - 1, math.MaxInt64,
	}
}

// Shapes is valid shapes, some at each limit.
func Shapes() []api.Shape {
	return []api.Shape{
		{H: 1, W: 1, C: 1}, {H: 1, W: 1, C: 7}, {H: 1, W: 5, C: 1}, {H: 6, W: 1, C: 1}, {H: 2, W: 3, C: 4}, {H: 4, W: 3, C: 2}, {H: 3, W: 3, C: 3},
		{H: 16, W: 16, C: 4}, {H: 1, W: 1, C: 1024}, {H: 16, W: 1, C: 64}, {H: 1, W: 16, C: 64}, {H: 16, W: 16, C: 1}, {H: 3, W: 1, C: 341},
	}
}

// WrongShapes is invalid shapes.
func WrongShapes() []api.Shape {
	const least, most = math.MinInt64, math.MaxInt64
	return []api.Shape{
		{}, {H: 1, W: 1}, {H: 1, C: 1}, {W: 1, C: 1}, {H: -1, W: -1, C: 1}, {H: -1, W: 1, C: -1}, {H: 1, W: -2, C: -2},
		{H: 17, W: 1, C: 1}, {H: 1, W: 17, C: 1}, {H: 16, W: 16, C: 5}, {H: 1, W: 1, C: 1025},
		{H: 1 << 32, W: 1 << 32, C: 1}, {H: 1 << 62, W: 4, C: 1}, {H: most, W: most, C: most}, {H: least, W: least, C: least},
		{H: least, W: 1, C: 1}, {H: 1, W: 1, C: least}, {H: 1, W: most, C: 1},
	}
}

// Numbers is numbers of which neighbours differ, with both limits among many.
func Numbers(size int) []int8 {
	var l []int8
	for i := range size {
		// Without the quotient, every fourth row of 64 would be the same.
		l = append(l, int8(i*37+i/64-128))
	}
	return l
}

// Wide is the same numbers with others in their capacity, behind their end.
func Wide(l []int8) []int8 {
	return append(slices.Clone(l), 101, 102, 103)[:len(l)]
}

// Tensor is numbers in a shape.
func Tensor(s api.Shape) api.Tensor {
	return api.Tensor{Shape: s, Data: Numbers(s.H * s.W * s.C)}
}

// Tensors is tensors of all Shapes.
func Tensors() []api.Tensor {
	var l []api.Tensor
	for _, s := range Shapes() {
		l = append(l, Tensor(s))
	}
	return l
}

// WrongTensors is tensors that are invalid by their shapes, or by the number of their numbers.
func WrongTensors() []api.Tensor {
	var l []api.Tensor
	for _, s := range WrongShapes() {
		for _, size := range []int{0, 1, 2, 17, 1024, 1025, 1280} {
			l = append(l, api.Tensor{Shape: s, Data: Numbers(size)})
		}
	}
	for _, s := range Shapes() {
		right := s.H * s.W * s.C
		for _, size := range []int{0, right - 1, right + 1, 2 * right} {
			l = append(l, api.Tensor{Shape: s, Data: Numbers(size)})
		}
	}
	return l
}

// Windows visits all sides, steps and borders that a window may have.
func Windows(visit func(k, stride, p int)) {
	for k := 1; k <= api.MaxKernel; k++ {
		for stride := 1; stride <= api.MaxStride; stride++ {
			for p := range k {
				visit(k, stride, p)
			}
		}
	}
}

// WrongWindows visits windows that may not be, each part of them wrong by itself, without weights and with some.
func WrongWindows(visit func(n api.Node)) {
	for _, wrong := range append([]int{0, 5, 6}, Far()...) {
		for _, n := range []api.Node{
			{K: wrong, S: 1, Out: 1}, {K: 3, S: wrong, P: 1, Out: 1}, {K: 3, S: 1, P: wrong, Out: 1}, {K: 3, S: 1, P: 1, Out: wrong},
			{K: wrong, S: wrong, P: wrong, Out: wrong}, {K: wrong, S: 1, P: wrong, Out: 2}, {K: 1, S: wrong, Out: wrong},
		} {
			visit(n)
			n.W, n.Bias = Numbers(9), []int32{1}
			visit(n)
		}
	}
}

// Slid is the shape of a window's positions with some channels, by a window that is moved as far as it goes.
// It is not held against the limits.
func Slid(s api.Shape, n api.Node, channels int) api.Shape {
	r := api.Shape{C: channels}
	for top := -n.P; top+n.K <= s.H+n.P; top += n.S {
		r.H++
	}
	for left := -n.P; left+n.K <= s.W+n.P; left += n.S {
		r.W++
	}
	return r
}

// Covered visits each row and column of a shape, counted together as a cell, with all windows that it is a part of
// and its place within them.
func Covered(s api.Shape, n api.Node, visit func(cell, window, place int)) {
	slid := Slid(s, n, 1)
	for cell := range s.H * s.W {
		for place := range n.K * n.K {
			down, right := cell/s.W+n.P-place/n.K, cell%s.W+n.P-place%n.K
			if down < 0 || right < 0 || down%n.S != 0 || right%n.S != 0 || down/n.S >= slid.H || right/n.S >= slid.W {
				continue
			}
			visit(cell, down/n.S*slid.W+right/n.S, place)
		}
	}
}
