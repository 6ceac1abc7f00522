// Package lot has what the tests of several layers are given, drawn by lot: nodes, blocks and bundles, and what may be wrong with them.
package lot

import (
	"slices"

	"stepwell/api"
	"stepwell/kinds"
	"stepwell/sample"
)

// Draw is numbers between limits that look drawn by lot, the same ones each time.
type Draw func(lo, hi int) int

// From is a Draw that begins with a seed.
func From(seed uint32) Draw {
	return func(lo, hi int) int {
		seed = seed*1664525 + 1013904223
		return lo + int(seed>>8)%(hi-lo+1)
	}
}

// Node is one for values of some shapes. It may be that it cannot take them.
func (next Draw) Node(shapes []api.Shape) api.Node {
	n := api.Node{
		Kind: next(api.Conv, api.Flat), A: next(0, len(shapes)-1), B: next(0, len(shapes)-1),
		K: next(1, 4), S: next(1, 2), P: next(0, 2), Out: next(1, 5), ZA: int8(next(-20, 20)), ZB: int8(next(-20, 20)),
		Q: api.Quant{Mult: int32(next(1, 9)), Shift: next(1, 4), Zero: int8(next(-20, 20))}, R: api.Quant{Mult: int32(next(1, 9)), Shift: next(1, 4)},
		Lo: int8(next(-128, -60)), Hi: int8(next(60, 127)),
	}
	a := shapes[n.A]
	window, outputs := n.K*n.K, n.Out
	switch n.Kind {
	case api.Conv:
		window *= a.C
	case api.Depth:
		outputs = a.C
	case api.Dense:
		window = a.H * a.W * a.C
	}
	for range window * outputs {
		n.W = append(n.W, int8(next(-9, 9)))
	}
	for range outputs {
		n.Bias = append(n.Bias, int32(next(-99, 99)))
	}
	return kinds.Plain(n)
}

// Fitting is a node that can take its values, and the shape of what it makes.
func (next Draw) Fitting(shapes []api.Shape) (api.Node, api.Shape) {
	for {
		n := next.Node(shapes)
		s, err := kinds.Shape(n, shapes[n.A], shapes[n.B])
		if err == api.OK {
			return n, s
		}
	}
}

// Block is nodes that can take their values, and the shapes of all values.
func (next Draw) Block(in api.Shape, many int) ([]api.Node, []api.Shape) {
	var l []api.Node
	shapes := []api.Shape{in}
	for range many {
		n, s := next.Fitting(shapes)
		l, shapes = append(l, n), append(shapes, s)
	}
	return l, shapes
}

// Blocks visits blocks of as many nodes as there may be, and of fewer, with the shapes of their values and an input.
func Blocks(visit func(l []api.Node, shapes []api.Shape, x api.Tensor)) {
	next := From(11)
	for _, s := range []api.Shape{{H: 1, W: 1, C: 1}, {H: 4, W: 3, C: 2}, {H: 6, W: 6, C: 3}, {H: 1, W: 5, C: 4}, {H: 7, W: 2, C: 1}, {H: 16, W: 16, C: 4}} {
		for round := range 12 * api.MaxNodes {
			l, shapes := next.Block(s, 1+round%api.MaxNodes)
			visit(l, shapes, sample.Tensor(s))
		}
	}
}

// Wide is the same nodes with others in their capacity, and all their lists too.
func Wide(l []api.Node) []api.Node {
	w := append(slices.Clone(l), api.Node{Kind: 77}, api.Node{Kind: 78})[:len(l)]
	for i, n := range l {
		w[i].W, w[i].Bias = sample.Wide(n.W), append(slices.Clone(n.Bias), 77)[:len(n.Bias)]
	}
	return w
}

// Kept tells whether nodes that are Wide are still what they were.
func Kept(w, l []api.Node) bool {
	for i, n := range l {
		if !slices.Equal(w[i].W[:len(n.W)+3], sample.Wide(n.W)[:len(n.W)+3]) || !slices.Equal(w[i].Bias[:len(n.Bias)+1], append(slices.Clone(n.Bias), 77)) {
			return false
		}
		if w[i].Kind != n.Kind || w[i].A != n.A || w[i].B != n.B || w[i].Q != n.Q || w[i].R != n.R {
			return false
		}
	}
	more := w[:len(l)+2]
	return more[len(l)].Kind == 77 && more[len(l)+1].Kind == 78
}

// Forget makes all numbers of nodes 0, in their lists too.
func Forget(l []api.Node) {
	for i := range l {
		clear(l[i].W)
		clear(l[i].Bias)
	}
	clear(l)
}
