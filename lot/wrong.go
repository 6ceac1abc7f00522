package lot

import (
	"slices"

	"stepwell/api"
	"stepwell/kinds"
	"stepwell/sample"
)

// wrong is what may be wrong with a node at a position, and what is told of it.
type wrong struct {
	err api.Errno
	of  func(n api.Node) bool
	by  func(n *api.Node, i int)
}

func all(n api.Node) bool { return true }

func scaled(n api.Node) bool { return kinds.Sums(n.Kind) || n.Kind == api.Join || n.Kind == api.Act }

func joins(n api.Node) bool { return n.Kind == api.Join }

func slides(n api.Node) bool { return n.K > 0 }

// wrongs is all that may be wrong with a node, in the order in which it is told.
func wrongs() []wrong {
	l := []wrong{
		{api.ErrKind, all, func(n *api.Node, i int) { n.Kind = 0 }},
		{api.ErrKind, all, func(n *api.Node, i int) { n.Kind = 10 }},
		{api.ErrArg, all, func(n *api.Node, i int) { n.R.Zero = 1 }},
		{api.ErrArg, func(n api.Node) bool { return !joins(n) }, func(n *api.Node, i int) { n.B = -1 }},
		{api.ErrQuant, scaled, func(n *api.Node, i int) { n.Q.Mult = 0 }},
		{api.ErrQuant, joins, func(n *api.Node, i int) { n.R.Shift = 63 }},
		{api.ErrArg, scaled, func(n *api.Node, i int) { n.Lo, n.Hi = 1, 0 }},
		{api.ErrValue, all, func(n *api.Node, i int) { n.A = i + 1 }},
		{api.ErrValue, joins, func(n *api.Node, i int) { n.B = i + 1 }},
		{api.ErrValue, all, func(n *api.Node, i int) { n.A = i + 2 }},
		{api.ErrValue, joins, func(n *api.Node, i int) { n.B = i + 2 }},
	}
	for _, far := range sample.Far() {
		l = append(l,
			wrong{api.ErrValue, all, func(n *api.Node, i int) { n.A = far }},
			wrong{api.ErrValue, joins, func(n *api.Node, i int) { n.B = far }})
	}
	return append(l,
		wrong{api.ErrArg, slides, func(n *api.Node, i int) { n.S = 5 }},
		wrong{api.ErrArg, func(n api.Node) bool { return n.Kind == api.Pad }, func(n *api.Node, i int) { n.P = 5 }},
		wrong{api.ErrWeights, func(n api.Node) bool { return kinds.Sums(n.Kind) }, func(n *api.Node, i int) { n.W = append(slices.Clone(n.W), 0) }})
}

// WrongNodes visits blocks of which a node is the first one with something wrong, with its position and what is told
// of it: what else is wrong with it, or with the nodes behind it, is not told.
func WrongNodes(visit func(l []api.Node, x api.Tensor, at int, err api.Errno)) {
	next := From(13)
	x := sample.Tensor(api.Shape{H: 4, W: 3, C: 2})
	for range 40 {
		right, _ := next.Block(x.Shape, api.MaxNodes)
		for i := range right {
			for first, w := range wrongs() {
				if !w.of(right[i]) {
					continue
				}
				l := slices.Clone(right)
				w.by(&l[i], i)
				visit(l, x, i, w.err)
				next.spoil(l, i, first, right[i])
				w.by(&l[i], i)
				visit(l, x, i, w.err)
			}
		}
	}
}

// spoil makes something else of a node wrong that is told later than what was the first; and all nodes behind it.
func (next Draw) spoil(l []api.Node, i, first int, right api.Node) {
	if later := wrongs()[next(first, len(wrongs())-1)]; later.of(right) {
		later.by(&l[i], i)
	}
	for j := i + 1; j < len(l); j++ {
		l[j] = api.Node{Kind: next(-1, 10), A: next(-1, 9), Lo: 1}
	}
}

// WrongBlocks visits blocks that have too few nodes or too many, inputs that are none, and blocks of WrongNodes, with
// the position and the error that is told first.
func WrongBlocks(visit func(l []api.Node, x api.Tensor, at int, err api.Errno)) {
	for _, many := range []int{0, 1, 8, 9, 10, 300} {
		for _, n := range []api.Node{{Kind: api.Flat}, {Kind: -1, A: -1}} {
			l := slices.Repeat([]api.Node{n}, many)
			for _, s := range sample.WrongShapes() {
				visit(l, api.Tensor{Shape: s, Data: sample.Numbers(2)}, -1, api.ErrShape)
			}
			for _, x := range sample.Tensors() {
				switch {
				case many == 0:
					visit(l, x, -1, api.ErrEmpty)
				case many > api.MaxNodes:
					visit(l, x, -1, api.ErrFull)
				case n.Kind == -1:
					visit(l, x, 0, api.ErrKind)
				}
			}
		}
	}
	WrongNodes(visit)
}
