package valid_test

import (
	"math"
	"slices"
	"testing"

	"stepwell/api"
	"stepwell/graph"
	"stepwell/guard"
	"stepwell/lot"
	"stepwell/sample"
	"stepwell/valid"
	"stepwell/verdict"
)

const (
	min32 = math.MinInt32
	max32 = math.MaxInt32
)

var (
	one  = api.Quant{Mult: 1}
	flat = api.Node{Kind: api.Flat}
	act  = api.Node{Kind: api.Act, Q: one, Hi: 9}
	two  = api.Shape{H: 1, W: 2, C: 1}
)

// head is an exit of two classes for two numbers.
func head(need int32, bias ...int32) api.Head {
	return api.Head{W: []int8{1, 2, 3, 4}, Bias: bias, Need: need}
}

// exit is a block of some nodes, with an exit of two classes for two numbers.
func exit(l ...api.Node) api.Block {
	return api.Block{Nodes: l, Exit: true, Head: head(0, 0, 0)}
}

// heavy is a node of one sum of two numbers.
func heavy(a int, bias int32, w ...int8) api.Node {
	return api.Node{Kind: api.Dense, A: a, Out: 1, W: w, Bias: []int32{bias}, Q: one, Lo: -128, Hi: 127}
}

func checkBlock(t *testing.T, b api.Block, in api.Shape, classes int, last bool, want int, wantErr api.Errno) {
	t.Helper()
	if got, err := valid.Block(b, in, classes, last); got != want || err != wantErr {
		t.Fatalf("Block(%+v, %+v, %d, %t) = %d, %d, want %d, %d", b, in, classes, last, got, err, want, wantErr)
	}
}

func checkBundle(t *testing.T, u api.Bundle, want valid.Fault) {
	t.Helper()
	if got := valid.Bundle(u); got != want {
		t.Fatalf("Bundle(%+v) = %+v, want %+v", u, got, want)
	}
	if got := valid.Right(u); got != (want.Why == api.OK) {
		t.Fatalf("Right(%+v) = %t, and the fault is %+v", u, got, want)
	}
}

// P33.1: blocks written out.
func TestBlockByHand(t *testing.T) {
	bare := api.Block{Nodes: []api.Node{flat}}
	checkBlock(t, bare, two, 2, false, 1, api.OK)
	checkBlock(t, bare, two, 2, true, -1, api.ErrExit)
	checkBlock(t, exit(flat), two, 2, false, 1, api.OK)
	checkBlock(t, exit(flat), two, 2, true, 1, api.OK)
	for many := 1; many <= api.MaxNodes; many++ {
		b := exit(slices.Repeat([]api.Node{flat}, many)...)
		checkBlock(t, b, two, 2, true, many, api.OK)
		b.Exit, b.Head = false, api.Head{}
		checkBlock(t, b, two, 2, false, many, api.OK)
		checkBlock(t, b, two, 2, true, -1, api.ErrExit)
	}
	// The shape that comes in and the classes are what an exit's weights must fit.
	checkBlock(t, exit(flat), api.Shape{H: 1, W: 1, C: 2}, 2, true, 1, api.OK)
	checkBlock(t, exit(flat), api.Shape{H: 3, W: 1, C: 1}, 2, true, -1, api.ErrWeights)
	checkBlock(t, exit(flat), two, 3, true, -1, api.ErrWeights)
	// Of the last node, not of another one.
	pool := api.Node{Kind: api.MaxPool, K: 2, S: 1}
	four := api.Shape{H: 2, W: 2, C: 2}
	checkBlock(t, exit(flat, pool), four, 2, true, 2, api.OK)
	checkBlock(t, exit(pool, flat), four, 2, true, -1, api.ErrWeights)
	// Without an exit, classes are not looked at.
	for _, classes := range append([]int{0, 1, 2, 16, 17}, sample.Far()...) {
		checkBlock(t, bare, two, classes, false, 1, api.OK)
		checkBlock(t, bare, two, classes, true, -1, api.ErrExit)
		if classes < 2 || classes > api.MaxClasses {
			checkBlock(t, exit(flat), two, classes, true, -1, api.ErrArg)
			checkBlock(t, exit(flat), two, classes, false, -1, api.ErrArg)
		}
	}
	checkBlock(t, api.Block{}, api.Shape{}, 0, true, -1, api.ErrShape)
	checkBlock(t, api.Block{}, two, 0, true, -1, api.ErrEmpty)
}

// P33.1: a block that has no exit has nothing in its Head either.
func TestHeadWithoutExit(t *testing.T) {
	for _, h := range []api.Head{
		{W: []int8{0}}, {Bias: []int32{0}}, {Need: 1}, {Need: -1}, {Need: max32}, {Need: min32}, {W: []int8{0}, Bias: []int32{0}}, head(0, 0, 0), head(5, 0, 0), head(-1, max32, 0),
	} {
		for _, last := range []bool{false, true} {
			for _, classes := range []int{2, 16, -1} {
				checkBlock(t, api.Block{Nodes: []api.Node{flat}, Head: h}, two, classes, last, -1, api.ErrExit)
			}
		}
	}
	empty := api.Head{W: []int8{}, Bias: []int32{}}
	checkBlock(t, api.Block{Nodes: []api.Node{flat}, Head: empty}, two, 2, false, 1, api.OK)
	checkBlock(t, api.Block{Nodes: []api.Node{flat}, Head: empty}, two, 2, true, -1, api.ErrExit)
	full := api.Head{W: []int8{1, 2}[:0], Bias: []int32{3}[:0]}
	checkBlock(t, api.Block{Nodes: []api.Node{flat}, Head: full}, two, 2, false, 1, api.OK)
}

// P33.1: the sums of nodes, for all numbers of 8 bits; they are told with the position of the node.
func TestSumsOfNodes(t *testing.T) {
	check := func(want api.Errno, l ...api.Node) {
		t.Helper()
		b := api.Block{Nodes: l}
		if want == api.OK {
			checkBlock(t, b, two, 2, false, len(l), api.OK)
			checkBlock(t, b, two, 2, true, -1, api.ErrExit)
			return
		}
		for _, last := range []bool{false, true} {
			for _, classes := range []int{2, -1} {
				checkBlock(t, b, two, classes, last, len(l)-1, want)
				b.Head.Need = 1
				checkBlock(t, b, two, classes, last, len(l)-1, want)
				b.Exit = true
				checkBlock(t, b, two, classes, last, len(l)-1, want)
				b = api.Block{Nodes: l}
			}
		}
	}
	check(api.OK, heavy(0, max32-127, 1, 0))
	check(api.ErrOver, heavy(0, max32-126, 1, 0))
	check(api.OK, heavy(0, max32-128, -1, 0))
	check(api.ErrOver, heavy(0, max32-127, -1, 0))
	check(api.OK, heavy(0, min32+128, 1, 0))
	check(api.ErrOver, heavy(0, min32+127, 1, 0))
	check(api.OK, heavy(0, min32+128*256, 127, 127))
	check(api.OK, heavy(0, max32, 0, 0))
	check(api.ErrOver, flat, flat, heavy(2, max32, 1, 0))
	check(api.ErrOver, flat, flat, heavy(0, max32, 0, 1))
	// From 0 to 9 after the Act.
	check(api.OK, act, heavy(1, max32-9, 0, 1))
	check(api.ErrOver, act, heavy(1, max32-8, 0, 1))
	check(api.ErrOver, act, heavy(0, max32-9, 0, 1))
	check(api.OK, act, heavy(1, max32, 0, -1))
	check(api.OK, act, heavy(1, min32, 1, 1))
	// A value of which nothing is used counts as well.
	checkBlock(t, api.Block{Nodes: []api.Node{heavy(0, max32, 1, 1), flat}}, two, 2, false, 0, api.ErrOver)
	// What Shapes tells of any node comes first.
	over := heavy(0, max32, 1, 1)
	for _, c := range []struct {
		n   api.Node
		err api.Errno
	}{
		{api.Node{Kind: 10}, api.ErrKind}, {api.Node{Kind: api.Flat, P: 1}, api.ErrArg}, {api.Node{Kind: api.Act}, api.ErrQuant}, {api.Node{Kind: api.Flat, A: 3}, api.ErrValue},
		{api.Node{Kind: api.Flat, A: -1}, api.ErrValue}, {heavy(0, 0, 1, 1, 1), api.ErrWeights}, {api.Node{Kind: api.MaxPool, K: 2, S: 1}, api.ErrShape}, {api.Node{Kind: api.Pad, P: 5}, api.ErrArg},
	} {
		checkBlock(t, api.Block{Nodes: []api.Node{over, over, c.n}}, two, 2, true, 2, c.err)
		checkBlock(t, api.Block{Nodes: []api.Node{c.n, over, over}}, two, 2, true, 0, c.err)
	}
	checkBlock(t, api.Block{Nodes: slices.Repeat([]api.Node{over}, 9)}, two, 2, true, -1, api.ErrFull)
	checkBlock(t, api.Block{Nodes: []api.Node{over}}, api.Shape{H: 17, W: 1, C: 1}, 2, true, -1, api.ErrShape)
}

// P33.1: an exit's own errors, in their order, and its sums for the interval that goes out.
func TestExits(t *testing.T) {
	check := func(b api.Block, classes int, want api.Errno) {
		t.Helper()
		node := -1
		if want == api.OK {
			node = len(b.Nodes)
		}
		checkBlock(t, b, two, classes, false, node, want)
		checkBlock(t, b, two, classes, true, node, want)
	}
	with := func(h api.Head, l ...api.Node) api.Block { return api.Block{Nodes: l, Exit: true, Head: h} }
	check(with(head(max32, 0, 0), flat), 2, api.OK)
	check(with(head(-1, max32, 0), flat), 2, api.ErrExit)
	check(with(head(min32, max32, 0), flat), 2, api.ErrExit)
	check(with(head(-1, max32), flat), 2, api.ErrWeights)
	check(with(head(-1, max32, 0, 0), flat), 2, api.ErrWeights)
	check(with(api.Head{}, flat), 2, api.ErrWeights)
	check(with(api.Head{Bias: []int32{max32, 0}}, flat), 2, api.ErrWeights)
	check(with(head(-1, max32), flat), 1, api.ErrArg)
	check(with(head(-1, max32), flat), 17, api.ErrArg)
	// The weights 1 and 2, or 3 and 4, of numbers from -128 to 127.
	check(with(head(0, max32-3*127, 0), flat), 2, api.OK)
	check(with(head(0, max32-3*127+1, 0), flat), 2, api.ErrOver)
	check(with(head(0, 0, max32-7*127), flat), 2, api.OK)
	check(with(head(0, 0, max32-7*127+1), flat), 2, api.ErrOver)
	check(with(head(0, 0, min32+7*128), flat), 2, api.OK)
	check(with(head(0, 0, min32+7*128-1), flat), 2, api.ErrOver)
	// From 0 to 9 after the Act, if that is what goes out.
	check(with(head(0, min32, max32-7*9), act), 2, api.OK)
	check(with(head(0, min32, max32-7*9+1), act), 2, api.ErrOver)
	check(with(head(0, min32, max32-7*9), act, api.Node{Kind: api.Flat, A: 1}), 2, api.OK)
	check(with(head(0, min32, max32-7*9), act, api.Node{Kind: api.Flat, A: 0}), 2, api.ErrOver)
	check(with(head(0, 0, max32-7*9), flat, act), 2, api.OK)
	// As many weights as there may be.
	wide := api.Shape{H: 16, W: 16, C: 4}
	b := with(api.Head{W: make([]int8, api.MaxWeights), Bias: make([]int32, api.MaxClasses)}, flat)
	checkBlock(t, b, wide, api.MaxClasses, true, 1, api.OK)
	b.Head.W = b.Head.W[1:]
	checkBlock(t, b, wide, api.MaxClasses, true, -1, api.ErrWeights)
}

// P33.1: nodes of all kinds, with and without an exit.
func TestBlock(t *testing.T) {
	next := lot.From(43)
	lot.Blocks(func(l []api.Node, shapes []api.Shape, x api.Tensor) {
		b := api.Block{Nodes: l}
		checkBlock(t, b, x.Shape, 3, false, len(l), api.OK)
		checkBlock(t, b, x.Shape, 3, true, -1, api.ErrExit)
		classes := next(2, api.MaxClasses)
		b.Exit, b.Head = true, next.Head(shapes[len(l)], classes)
		for _, last := range []bool{false, true} {
			checkBlock(t, b, x.Shape, classes, last, len(l), api.OK)
			if classes > 2 {
				checkBlock(t, b, x.Shape, classes-1, last, -1, api.ErrWeights)
			}
			checkBlock(t, b, x.Shape, api.MaxClasses+1, last, -1, api.ErrArg)
		}
	})
}

// P33.1: blocks that are none, and nodes that are wrong, whatever their exit is.
func TestWrongBlocks(t *testing.T) {
	told := map[api.Errno]int{}
	lot.WrongBlocks(func(l []api.Node, x api.Tensor, at int, err api.Errno) {
		for _, b := range []api.Block{{Nodes: l}, {Nodes: l, Exit: true}, {Nodes: l, Head: api.Head{Need: -1}}, {Nodes: l, Exit: true, Head: head(-1, max32, 0)}} {
			checkBlock(t, b, x.Shape, 2, false, at, err)
			checkBlock(t, b, x.Shape, -1, true, at, err)
		}
		told[err]++
	})
	for _, err := range []api.Errno{api.ErrShape, api.ErrEmpty, api.ErrFull, api.ErrKind, api.ErrArg, api.ErrQuant, api.ErrValue, api.ErrWeights} {
		if told[err] == 0 {
			t.Errorf("only %v was told", told)
		}
	}
}

// P33.2, P33.3: faults written out.
func TestBundleByHand(t *testing.T) {
	model := func(l ...api.Block) api.Model { return api.Model{Blocks: l} }
	fault := func(why api.Errno, model, block, node int) valid.Fault {
		return valid.Fault{Why: why, Model: model, Block: block, Node: node}
	}
	bare, right, ok := api.Block{Nodes: []api.Node{flat}}, exit(flat), valid.Fault{}
	check := func(want valid.Fault, l ...api.Model) {
		t.Helper()
		checkBundle(t, api.Bundle{Input: two, Classes: 2, Models: l}, want)
	}
	checkBundle(t, api.Bundle{}, fault(api.ErrShape, -1, -1, -1))
	checkBundle(t, api.Bundle{Classes: 2, Models: []api.Model{model(right)}}, fault(api.ErrShape, -1, -1, -1))
	checkBundle(t, api.Bundle{Input: two}, fault(api.ErrArg, -1, -1, -1))
	checkBundle(t, api.Bundle{Input: two, Models: []api.Model{model(right)}}, fault(api.ErrArg, -1, -1, -1))
	for _, many := range []int{0, 4} {
		u := api.Bundle{Classes: 17, Models: make([]api.Model, many)}
		checkBundle(t, u, fault(api.ErrShape, -1, -1, -1))
		u.Input = two
		checkBundle(t, u, fault(api.ErrArg, -1, -1, -1))
	}
	check(fault(api.ErrEmpty, -1, -1, -1))
	check(ok, model(right))
	check(ok, model(right), model(right), model(right))
	check(fault(api.ErrFull, -1, -1, -1), model(right), model(right), model(right), model(right))
	check(fault(api.ErrFull, -1, -1, -1), model(), model(), model(), model())
	check(fault(api.ErrEmpty, 0, -1, -1), model(), model())
	check(fault(api.ErrEmpty, 1, -1, -1), model(right), model())
	check(fault(api.ErrEmpty, 2, -1, -1), model(right), model(right), model())
	check(fault(api.ErrFull, 0, -1, -1), model(slices.Repeat([]api.Block{bare}, 7)...), model())
	check(fault(api.ErrFull, 1, -1, -1), model(right), model(slices.Repeat([]api.Block{right}, 7)...))
	check(ok, model(slices.Repeat([]api.Block{right}, 6)...), model(right))
	check(ok, model(append(slices.Repeat([]api.Block{bare}, 5), right)...))
	// The last block of each model has an exit.
	check(fault(api.ErrExit, 0, 0, -1), model(bare))
	check(fault(api.ErrExit, 0, 1, -1), model(right, bare))
	check(fault(api.ErrExit, 0, 5, -1), model(slices.Repeat([]api.Block{bare}, 6)...), model(bare))
	check(fault(api.ErrExit, 1, 1, -1), model(right), model(right, bare), model())
	check(fault(api.ErrExit, 2, 0, -1), model(right), model(bare, right), model(bare))
	// A node's position, of its own block.
	wrong := exit(flat, flat, api.Node{Kind: 10})
	check(fault(api.ErrKind, 0, 0, 2), model(wrong, wrong), model())
	check(fault(api.ErrKind, 0, 1, 2), model(right, wrong), model(wrong))
	check(fault(api.ErrKind, 1, 2, 2), model(right), model(bare, right, wrong), model(wrong))
	check(fault(api.ErrOver, 1, 1, 0), model(right), model(right, exit(heavy(0, max32, 1, 1))))
	check(fault(api.ErrEmpty, 0, 0, -1), model(api.Block{}))
	check(fault(api.ErrEmpty, 0, 1, -1), model(right, api.Block{}, right))
}

// P33.2: what goes out of a block comes into the next one, and each model begins with the input.
func TestShapesFollowOneAnother(t *testing.T) {
	pool := api.Block{Nodes: []api.Node{{Kind: api.MaxPool, K: 2, S: 1}}}
	last := exit(flat)
	u := api.Bundle{Input: api.Shape{H: 3, W: 4, C: 1}, Classes: 2, Models: []api.Model{{Blocks: []api.Block{pool, pool, last}}}}
	checkBundle(t, u, valid.Fault{})
	u.Models = []api.Model{u.Models[0], u.Models[0], u.Models[0]}
	checkBundle(t, u, valid.Fault{})
	u.Models[2].Blocks = []api.Block{pool, pool, pool, last}
	checkBundle(t, u, valid.Fault{Why: api.ErrShape, Model: 2, Block: 2, Node: 0})
	u.Models[1].Blocks = []api.Block{pool, last}
	checkBundle(t, u, valid.Fault{Why: api.ErrWeights, Model: 1, Block: 1, Node: -1})
	u.Models[0].Blocks = []api.Block{last}
	checkBundle(t, u, valid.Fault{Why: api.ErrWeights, Model: 0, Block: 0, Node: -1})
	// The shapes follow one another, not the intervals: each block's begins from -128 to 127.
	small, over := api.Block{Nodes: []api.Node{act}}, exit(heavy(0, max32-9, 0, 1))
	over.Head.W = []int8{1, 1}
	u = api.Bundle{Input: two, Classes: 2, Models: []api.Model{{Blocks: []api.Block{small, over}}}}
	checkBundle(t, u, valid.Fault{Why: api.ErrOver, Model: 0, Block: 1, Node: 0})
	over.Nodes = []api.Node{act, heavy(1, max32-9, 0, 1)}
	u.Models[0].Blocks[1] = over
	checkBundle(t, u, valid.Fault{})
}

// P33.2, P33.3: bundles of all sizes, with nodes of all kinds.
func TestBundle(t *testing.T) {
	lot.Bundles(func(u api.Bundle) { checkBundle(t, u, valid.Fault{}) })
}

// P33.2, P33.3: the first of what is wrong is told, and where.
func TestWrongBundles(t *testing.T) {
	told := map[api.Errno]int{}
	lot.WrongBundles(func(u api.Bundle, f lot.Fault) {
		checkBundle(t, u, valid.Fault(f))
		told[f.Why]++
	})
	for _, err := range []api.Errno{api.ErrShape, api.ErrArg, api.ErrEmpty, api.ErrFull, api.ErrKind, api.ErrQuant, api.ErrValue, api.ErrWeights, api.ErrExit, api.ErrOver} {
		if told[err] == 0 {
			t.Errorf("only %v was told", told)
		}
	}
}

// P33.4: one model alone, and the blocks of a model up to any exit.
func TestPartsRemainValid(t *testing.T) {
	lot.Bundles(func(u api.Bundle) {
		for i, m := range u.Models {
			alone := u
			alone.Models = u.Models[i : i+1]
			checkBundle(t, alone, valid.Fault{})
			for j, b := range m.Blocks {
				cut := lot.Copy(u)
				cut.Models[i].Blocks = m.Blocks[:j+1]
				if b.Exit {
					checkBundle(t, cut, valid.Fault{})
				} else {
					checkBundle(t, cut, valid.Fault{Why: api.ErrExit, Model: i, Block: j, Node: -1})
				}
			}
		}
	})
}

// P32.4, P33.1: any input passes all blocks of a valid bundle, within the intervals, and each exit tells its exact sums.
func TestInputsPass(t *testing.T) {
	lot.Bundles(func(u api.Bundle) {
		for _, m := range u.Models {
			x := sample.Tensor(u.Input)
			for _, b := range m.Blocks {
				out, _, err := graph.Eval(b.Nodes, x)
				reaches, _, _ := guard.Flow(b.Nodes, guard.Reach{Lo: -128, Hi: 127})
				r := reaches[len(b.Nodes)]
				if err != api.OK || slices.Min(out.Data) < r.Lo || slices.Max(out.Data) > r.Hi {
					t.Fatalf("%+v makes %+v of %+v, not within %+v, and %d", b, out, x, r, err)
				}
				if b.Exit {
					passExit(t, out, b.Head, u.Classes)
				}
				x = out
			}
		}
	})
}

func passExit(t *testing.T, x api.Tensor, h api.Head, classes int) {
	t.Helper()
	v, err := verdict.Look(x, h, classes)
	for c, logit := range v.Logits {
		sum := int(h.Bias[c])
		for i, number := range x.Data {
			sum += int(number) * int(h.W[c*len(x.Data)+i])
		}
		if sum != int(logit) {
			t.Fatalf("Logit %d of %+v is %d, want %d", c, x, logit, sum)
		}
	}
	if err != api.OK || len(v.Logits) != classes {
		t.Fatalf("Look(%+v, %+v) = %+v, %d", x, h, v, err)
	}
}

// Rule 2: what is passed stays as it is, up to its capacity.
func TestNothingChanges(t *testing.T) {
	check := func(u api.Bundle) {
		w := lot.Copy(u)
		for i, m := range w.Models {
			for j, b := range m.Blocks {
				w.Models[i].Blocks[j].Nodes = lot.Wide(b.Nodes)
				w.Models[i].Blocks[j].Head.W = sample.Wide(b.Head.W)
				w.Models[i].Blocks[j].Head.Bias = append(slices.Clone(b.Head.Bias), 77)[:len(b.Head.Bias)]
			}
			w.Models[i].Blocks = append(w.Models[i].Blocks, api.Block{Exit: true})[:len(m.Blocks)]
		}
		w.Models = append(w.Models, api.Model{Blocks: make([]api.Block, 5)})[:len(u.Models)]
		if got, want := valid.Bundle(w), valid.Bundle(u); got != want || valid.Right(w) != valid.Right(u) {
			t.Fatalf("Bundle(%+v) = %+v, then %+v", u, want, got)
		}
		if more := w.Models[:len(w.Models)+1]; len(more[len(w.Models)].Blocks) != 5 {
			t.Fatalf("what is behind the models of %+v changed", u)
		}
		for i, m := range w.Models {
			if more := m.Blocks[:len(m.Blocks)+1]; !more[len(m.Blocks)].Exit {
				t.Fatalf("what is behind the blocks of %+v changed", m)
			}
			for j, b := range m.Blocks {
				right := u.Models[i].Blocks[j]
				valid.Block(b, u.Input, u.Classes, true)
				kept := lot.Kept(b.Nodes, right.Nodes) && slices.Equal(b.Head.W[:len(b.Head.W)+3], append(slices.Clone(right.Head.W), 101, 102, 103)) &&
					slices.Equal(b.Head.Bias[:len(b.Head.Bias)+1], append(slices.Clone(right.Head.Bias), 77))
				if !kept || b.Exit != right.Exit || b.Head.Need != right.Head.Need {
					t.Fatalf("%+v changed to %+v", right, b)
				}
			}
		}
	}
	lot.Bundles(check)
	at := 0
	lot.WrongBundles(func(u api.Bundle, f lot.Fault) {
		if at++; at%50 == 0 {
			check(u)
		}
	})
}

// P1, rule 6: blocks and bundles whose fields are all far away.
func TestFar(t *testing.T) {
	for _, far := range sample.Far() {
		for kind := -1; kind <= 10; kind++ {
			n := api.Node{Kind: kind, A: far, B: far, K: far, S: far, P: far, Out: far, W: sample.Numbers(6), Bias: []int32{1, max32}, Q: api.Quant{Mult: 1, Shift: far}, R: one}
			b := api.Block{Nodes: []api.Node{flat, n}, Exit: true, Head: head(min32, max32)}
			_, at, err := graph.Shapes(b.Nodes, two)
			if err == api.OK {
				t.Fatalf("%+v has nothing wrong", n)
			}
			checkBlock(t, b, two, far, true, at, err)
			checkBlock(t, b, api.Shape{H: far, W: far, C: far}, far, true, -1, api.ErrShape)
			m := []api.Model{{Blocks: []api.Block{exit(flat), b}}}
			checkBundle(t, api.Bundle{Input: two, Classes: 2, Models: m}, valid.Fault{Why: err, Model: 0, Block: 1, Node: at})
			checkBundle(t, api.Bundle{Input: two, Classes: far, Models: m}, valid.Fault{Why: api.ErrArg, Model: -1, Block: -1, Node: -1})
			checkBundle(t, api.Bundle{Input: api.Shape{H: far, W: far, C: far}, Classes: far, Models: m}, valid.Fault{Why: api.ErrShape, Model: -1, Block: -1, Node: -1})
		}
	}
}
