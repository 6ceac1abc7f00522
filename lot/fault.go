package lot

import (
	"math"
	"slices"

	"stepwell/api"
	"stepwell/graph"
	"stepwell/sample"
)

// Fault is what is told of a bundle, and where: -1 is for what is no part of a model, a block or a node.
type Fault struct {
	Why                api.Errno
	Model, Block, Node int
}

// Copy is the same bundle with lists of its own: those of its models, blocks and nodes, not those of weights and biases.
func Copy(u api.Bundle) api.Bundle {
	u.Models = slices.Clone(u.Models)
	for i, m := range u.Models {
		u.Models[i].Blocks = slices.Clone(m.Blocks)
		for j, b := range m.Blocks {
			u.Models[i].Blocks[j].Nodes = slices.Clone(b.Nodes)
		}
	}
	return u
}

// WrongBundles visits bundles that are Bundles but for one fault, and the same with more faults behind it that are not told.
func WrongBundles(visit func(u api.Bundle, f Fault)) {
	next := From(41)
	// both visits what becomes of a bundle alone, and with all spoiled that is behind the fault.
	both := func(u api.Bundle, f Fault, by func(u *api.Bundle)) {
		one := Copy(u)
		by(&one)
		visit(one, f)
		more := Copy(u)
		next.spoilBehind(&more, f)
		by(&more)
		visit(more, f)
	}
	Bundles(func(u api.Bundle) {
		wrongWhole(u, both)
		for i, m := range u.Models {
			wrongModel(u, i, both)
			for j := range m.Blocks {
				next.wrongBlock(u, i, j, both)
			}
		}
	})
}

// spoiler visits what a function makes of a bundle.
type spoiler func(u api.Bundle, f Fault, by func(u *api.Bundle))

// wrongWhole visits a bundle in which something is wrong whatever its models are.
func wrongWhole(u api.Bundle, visit spoiler) {
	outside := func(why api.Errno) Fault { return Fault{Why: why, Model: -1, Block: -1, Node: -1} }
	for _, s := range sample.WrongShapes() {
		visit(u, outside(api.ErrShape), func(u *api.Bundle) { u.Input = s })
	}
	for _, classes := range append([]int{0, 1, 17, 18}, sample.Far()...) {
		visit(u, outside(api.ErrArg), func(u *api.Bundle) { u.Classes = classes })
	}
	visit(u, outside(api.ErrEmpty), func(u *api.Bundle) { u.Models = nil })
	for _, many := range []int{4, 5, 257} {
		visit(u, outside(api.ErrFull), func(u *api.Bundle) { u.Models = slices.Repeat(u.Models[:1], many) })
	}
}

// wrongModel visits a bundle of which a model has no blocks, or too many.
func wrongModel(u api.Bundle, i int, visit spoiler) {
	of := func(why api.Errno) Fault { return Fault{Why: why, Model: i, Block: -1, Node: -1} }
	visit(u, of(api.ErrEmpty), func(u *api.Bundle) { u.Models[i].Blocks = nil })
	for _, many := range []int{7, 8, 257} {
		visit(u, of(api.ErrFull), func(u *api.Bundle) { u.Models[i].Blocks = slices.Repeat(u.Models[i].Blocks[:1], many) })
	}
}

// wrongBlock visits a bundle in which something is wrong with a block: with its nodes, with its sums, or with its exit.
func (next Draw) wrongBlock(u api.Bundle, i, j int, visit spoiler) {
	right := u.Models[i].Blocks[j]
	of := func(why api.Errno, node int, by func(b *api.Block)) {
		visit(u, Fault{Why: why, Model: i, Block: j, Node: node}, func(u *api.Bundle) { by(&u.Models[i].Blocks[j]) })
	}
	of(api.ErrEmpty, -1, func(b *api.Block) { b.Nodes = nil })
	of(api.ErrFull, -1, func(b *api.Block) { b.Nodes = slices.Repeat(b.Nodes[:1], 9) })
	for at, n := range right.Nodes {
		for _, w := range wrongs() {
			if next(0, 9) == 0 && w.of(n) {
				of(w.err, at, func(b *api.Block) { w.by(&b.Nodes[at], at) })
			}
		}
	}
	over := overs(entering(u, i, j), u.Classes)
	of(api.ErrOver, 1, func(b *api.Block) { b.Nodes = over.Nodes })
	of(api.ErrOver, -1, func(b *api.Block) { b.Nodes, b.Exit, b.Head = over.Nodes[:1], true, over.Head })
	for _, w := range wrongExits() {
		if w.of(right, j == len(u.Models[i].Blocks)-1) {
			of(w.err, -1, w.by)
		}
	}
}

// entering is the shape that comes into a block.
func entering(u api.Bundle, i, j int) api.Shape {
	s := u.Input
	for _, b := range u.Models[i].Blocks[:j] {
		shapes, at, _ := graph.Shapes(b.Nodes, s)
		s = shapes[at]
	}
	return s
}

// overs is a block of which the second node has a sum that may leave 32 bits, and so has the exit, for what the first
// node makes.
func overs(in api.Shape, classes int) api.Block {
	elems := in.H * in.W * in.C
	heavy := api.Node{Kind: api.Dense, A: 1, Out: 1, W: slices.Repeat([]int8{1}, elems), Bias: []int32{math.MaxInt32}, Q: api.Quant{Mult: 1}}
	h := api.Head{W: slices.Repeat([]int8{-1}, elems*classes), Bias: make([]int32, classes)}
	h.Bias[classes-1] = math.MaxInt32
	return api.Block{Nodes: []api.Node{{Kind: api.Flat}, heavy}, Exit: true, Head: h}
}

// wrongExit is what may be wrong with an exit of a block, or with there being none, and what is told of it.
type wrongExit struct {
	err api.Errno
	of  func(b api.Block, last bool) bool
	by  func(b *api.Block)
}

func ofLast(b api.Block, last bool) bool { return last }

func withExit(b api.Block, last bool) bool { return b.Exit }

func withoutExit(b api.Block, last bool) bool { return !b.Exit }

// wrongExits is all that may be wrong with an exit but its sums.
func wrongExits() []wrongExit {
	return []wrongExit{
		{api.ErrExit, ofLast, func(b *api.Block) { b.Exit, b.Head = false, api.Head{} }},
		{api.ErrExit, withExit, func(b *api.Block) { b.Exit = false }},
		{api.ErrExit, withoutExit, func(b *api.Block) { b.Head.W = make([]int8, 1) }},
		{api.ErrExit, withoutExit, func(b *api.Block) { b.Head.Bias = make([]int32, 1) }},
		{api.ErrExit, withoutExit, func(b *api.Block) { b.Head.Need = 1 }},
		{api.ErrExit, withoutExit, func(b *api.Block) { b.Head.Need = -1 }},
		{api.ErrWeights, withoutExit, func(b *api.Block) { b.Exit = true }},
		{api.ErrWeights, withExit, func(b *api.Block) { b.Head = api.Head{Need: -1} }},
		{api.ErrWeights, withExit, func(b *api.Block) { b.Head.W, b.Head.Need = append(slices.Clone(b.Head.W), 0), -1 }},
		{api.ErrWeights, withExit, func(b *api.Block) { b.Head.W = b.Head.W[1:] }},
		{api.ErrWeights, withExit, func(b *api.Block) { b.Head.Bias = append(slices.Clone(b.Head.Bias), 0) }},
		{api.ErrWeights, withExit, func(b *api.Block) { b.Head.Bias = b.Head.Bias[1:] }},
		{api.ErrExit, withExit, func(b *api.Block) { b.Head.Need = -1 }},
		{api.ErrExit, withExit, func(b *api.Block) { b.Head.Need = math.MinInt32 }},
	}
}

// spoilBehind makes something wrong of all that is told later than a fault.
func (next Draw) spoilBehind(u *api.Bundle, f Fault) {
	for i, m := range u.Models {
		if i > f.Model && next(0, 3) == 0 {
			u.Models[i].Blocks = slices.Repeat(m.Blocks[:1], 9*next(0, 1))
			continue
		}
		for j := range m.Blocks {
			if i > f.Model || i == f.Model && j > f.Block {
				next.spoilBlock(&u.Models[i].Blocks[j])
			}
		}
	}
	if f.Block >= 0 && f.Node >= 0 {
		next.spoilNodes(&u.Models[f.Model].Blocks[f.Block], f.Node+1)
	}
}

// spoilBlock makes something wrong of a block.
func (next Draw) spoilBlock(b *api.Block) {
	switch next(0, 3) {
	case 0:
		b.Nodes = nil
	case 1:
		b.Nodes = slices.Repeat(b.Nodes[:1], 9)
	case 2:
		next.spoilNodes(b, 0)
	case 3:
		b.Exit, b.Head.Need = !b.Exit, -1
	}
}

// spoilNodes makes something wrong of a block's exit, and of its nodes from a position on.
func (next Draw) spoilNodes(b *api.Block, from int) {
	for k := from; k < len(b.Nodes); k++ {
		b.Nodes[k] = api.Node{Kind: next(-1, 10), A: next(-1, 9), Lo: 1}
	}
	b.Exit, b.Head.Need = !b.Exit, -1
}
