package cost_test

import (
	"math"
	"slices"
	"testing"

	"stepwell/api"
	"stepwell/cost"
	"stepwell/graph"
	"stepwell/kinds"
	"stepwell/lot"
	"stepwell/sample"
)

var (
	one  = api.Quant{Mult: 1}
	flat = api.Node{Kind: api.Flat}
	s432 = api.Shape{H: 4, W: 3, C: 2}
)

func weights(n api.Node, many, biases int) api.Node {
	n.W, n.Bias = make([]int8, many), make([]int32, biases)
	return n
}

func checkNode(t *testing.T, n api.Node, a, b api.Shape, want int) {
	t.Helper()
	if got := cost.Node(n, a, b); got != want {
		t.Fatalf("Node(%+v, %+v, %+v) = %d, want %d", n, a, b, got, want)
	}
}

func checkBlock(t *testing.T, b api.Block, in api.Shape, classes int, want int, wantErr api.Errno) {
	t.Helper()
	if got, err := cost.Block(b, in, classes); got != want || err != wantErr {
		t.Fatalf("Block(%+v, %+v, %d) = %d, %d, want %d, %d", b, in, classes, got, err, want, wantErr)
	}
}

func checkOut(t *testing.T, b api.Block, in, want api.Shape, wantErr api.Errno) {
	t.Helper()
	if got, err := cost.Out(b, in); got != want || err != wantErr {
		t.Fatalf("Out(%+v, %+v) = %+v, %d, want %+v, %d", b, in, got, err, want, wantErr)
	}
}

func checkTable(t *testing.T, u api.Bundle, want [][]int, wantErr api.Errno) {
	t.Helper()
	if got, err := cost.Table(u); !slices.EqualFunc(got, want, slices.Equal[[]int]) || err != wantErr {
		t.Fatalf("Table(%+v) = %d, %d, want %d, %d", u, got, err, want, wantErr)
	}
}

func checkEnds(t *testing.T, table [][]int, least, most, all int) {
	t.Helper()
	if gotLeast, gotMost, gotAll := cost.Ends(table); gotLeast != least || gotMost != most || gotAll != all {
		t.Fatalf("Ends(%d) = %d, %d, %d, want %d, %d, %d", table, gotLeast, gotMost, gotAll, least, most, all)
	}
}

// P31.1: costs written out.
func TestNodeByHand(t *testing.T) {
	for _, c := range []struct {
		n    api.Node
		a    api.Shape
		want int
	}{
		{weights(api.Node{Kind: api.Conv, K: 3, S: 1, P: 1, Out: 5}, 90, 5), api.Shape{H: 4, W: 4, C: 2}, 1440},
		{weights(api.Node{Kind: api.Conv, K: 2, S: 2, Out: 7}, 56, 7), s432, 2 * 1 * 7 * 2 * 2 * 2},
		{weights(api.Node{Kind: api.Conv, K: 1, S: 1, Out: 1}, 1, 1), api.Shape{H: 1, W: 1, C: 1}, 1},
		{weights(api.Node{Kind: api.Depth, K: 3, S: 1, P: 1}, 18, 2), s432, 24 * 9},
		{weights(api.Node{Kind: api.Depth, K: 2, S: 2, P: 1}, 8, 2), s432, 3 * 2 * 2 * 4},
		{weights(api.Node{Kind: api.Depth, K: 1, S: 3}, 2, 2), s432, 2 * 1 * 2},
		{weights(api.Node{Kind: api.Dense, Out: 5}, 120, 5), s432, 5 * 24},
		{weights(api.Node{Kind: api.Dense, Out: 1}, 24, 1), s432, 24},
		{api.Node{Kind: api.MaxPool, K: 2, S: 1}, s432, 3 * 2 * 2 * 4},
		{api.Node{Kind: api.AvgPool, K: 2, S: 1}, s432, 3 * 2 * 2 * 4},
		{api.Node{Kind: api.MaxPool, K: 3, S: 2, P: 2}, s432, 3 * 3 * 2 * 9},
		{api.Node{Kind: api.AvgPool, K: 3, S: 2, P: 2}, s432, 3 * 3 * 2 * 9},
		{api.Node{Kind: api.Join, Q: one, R: one}, s432, 24},
		{api.Node{Kind: api.Act, Q: one}, s432, 24},
		{api.Node{Kind: api.Pad, P: 1}, s432, 6 * 5 * 2},
		{api.Node{Kind: api.Pad}, s432, 24},
		{flat, s432, 24}, {flat, api.Shape{H: 16, W: 16, C: 4}, 1024}, {flat, api.Shape{H: 1, W: 1, C: 1}, 1},
	} {
		checkNode(t, c.n, c.a, c.a, c.want)
		for _, b := range append(sample.Shapes(), sample.WrongShapes()...) {
			if c.n.Kind == api.Join && b != c.a {
				checkNode(t, c.n, c.a, b, 0)
				checkNode(t, c.n, b, c.a, 0)
			} else {
				checkNode(t, c.n, c.a, b, c.want)
			}
		}
		for _, wrong := range sample.WrongShapes() {
			checkNode(t, c.n, wrong, wrong, 0)
		}
	}
}

// price is what a node costs that makes a shape of another one: for each number of it the products, or the numbers
// that are looked at.
func price(n api.Node, a, made api.Shape) int {
	each := 1
	switch n.Kind {
	case api.Conv:
		each = n.K * n.K * a.C
	case api.Dense:
		each = a.H * a.W * a.C
	case api.Depth, api.MaxPool, api.AvgPool:
		each = n.K * n.K
	}
	return each * made.H * made.W * made.C
}

// P31.1: nodes of all kinds.
func TestNode(t *testing.T) {
	seen := map[int]int{}
	lot.Blocks(func(l []api.Node, shapes []api.Shape, x api.Tensor) {
		for i, n := range l {
			checkNode(t, n, shapes[n.A], shapes[n.B], price(n, shapes[n.A], shapes[i+1]))
			seen[n.Kind]++
		}
	})
	if len(seen) != 9 {
		t.Errorf("only kinds %v were seen", seen)
	}
}

// P31.1: what makes no shape costs nothing.
func TestNodeThatMakesNothing(t *testing.T) {
	for _, s := range sample.Shapes() {
		for _, kind := range append([]int{0, 10, 11, 257}, sample.Far()...) {
			checkNode(t, api.Node{Kind: kind}, s, s, 0)
			checkNode(t, weights(api.Node{Kind: kind, K: 1, S: 1, Out: 1}, s.C, 1), s, s, 0)
		}
		for _, p := range append([]int{5, 6}, sample.Far()...) {
			checkNode(t, api.Node{Kind: api.Pad, P: p}, s, s, 0)
		}
		for _, kind := range []int{api.Conv, api.Depth, api.Dense, api.MaxPool, api.AvgPool} {
			sample.WrongWindows(func(n api.Node) {
				n.Kind = kind
				if _, err := kinds.Shape(n, s, s); err != api.OK {
					checkNode(t, n, s, s, 0)
				}
			})
		}
	}
	sample.WrongWindows(func(n api.Node) {
		for _, kind := range []int{api.Conv, api.Depth} {
			n.Kind = kind
			n.W = n.W[:0]
			checkNode(t, n, s432, s432, 0)
		}
	})
	for _, right := range []api.Node{
		weights(api.Node{Kind: api.Conv, K: 3, S: 1, P: 1, Out: 5}, 90, 5), weights(api.Node{Kind: api.Depth, K: 3, S: 1}, 18, 2), weights(api.Node{Kind: api.Dense, Out: 3}, 72, 3),
	} {
		sample.Misweighed(right, func(n api.Node) { checkNode(t, n, s432, s432, 0) })
	}
	// A window that is wider than the shape, a border that is too wide, and more numbers than there may be.
	checkNode(t, api.Node{Kind: api.MaxPool, K: 4, S: 1}, s432, s432, 0)
	checkNode(t, api.Node{Kind: api.Pad, P: 4}, api.Shape{H: 9, W: 1, C: 1}, s432, 0)
	checkNode(t, api.Node{Kind: api.Pad, P: 1}, api.Shape{H: 16, W: 1, C: 1}, s432, 0)
	checkNode(t, weights(api.Node{Kind: api.Conv, K: 1, S: 1, Out: 5}, 20, 5), api.Shape{H: 16, W: 16, C: 4}, s432, 0)
}

// P31.1: only the shape counts, not what else is wrong with a node.
func TestNodeIsNotChecked(t *testing.T) {
	for _, kind := range []int{api.Join, api.Act, api.Flat} {
		for _, far := range sample.Far() {
			n := api.Node{Kind: kind, A: far, B: far, K: far, S: far, P: far, Out: far, ZA: -1, ZB: 1, W: []int8{1}, Bias: []int32{1}, Q: api.Quant{Shift: far}, R: api.Quant{Mult: -1}, Lo: 9, Hi: -9}
			checkNode(t, n, s432, s432, 24)
			n.Kind, n.P = api.Pad, 1
			checkNode(t, n, s432, s432, 60)
		}
	}
	checkNode(t, weights(api.Node{Kind: api.Dense, K: 9, S: -9, P: 9, Out: 2, Lo: 1}, 48, 2), s432, s432, 48)
	checkNode(t, weights(api.Node{Kind: api.Depth, K: 2, S: 2, P: 1, Out: -9, Lo: 1}, 8, 2), s432, s432, 48)
	checkNode(t, api.Node{Kind: api.MaxPool, K: 2, S: 1, Out: 99, W: []int8{1}, Q: api.Quant{Shift: -1}}, s432, s432, 48)
}

// P31.2: costs written out.
func TestBlockByHand(t *testing.T) {
	six, two := api.Shape{H: 2, W: 3, C: 1}, api.Shape{H: 1, W: 2, C: 1}
	checkBlock(t, api.Block{Nodes: []api.Node{flat}}, six, 2, 7, api.OK)
	checkBlock(t, api.Block{Nodes: []api.Node{flat}, Exit: true}, two, 2, 9, api.OK)
	dense := weights(api.Node{Kind: api.Dense, Out: 2, Q: one, Hi: 1}, 12, 2)
	checkBlock(t, api.Block{Nodes: []api.Node{dense}, Exit: true}, six, 3, 1+12+9, api.OK)
	l := []api.Node{
		{Kind: api.Act, Q: one, Hi: 4},
		{Kind: api.Join, B: 1, Q: one, R: one, Hi: 4},
		{Kind: api.Pad, A: 1, P: 1},
		{Kind: api.MaxPool, A: 3, K: 2, S: 2},
		weights(api.Node{Kind: api.Conv, A: 3, K: 2, S: 2, Out: 3, Q: one}, 24, 3),
		{Kind: api.AvgPool, A: 2, K: 2, S: 1},
		{Kind: api.Flat, A: 4},
		weights(api.Node{Kind: api.Dense, A: 7, Out: 2, Q: one}, 24, 2),
	}
	// The shapes are 4x3x2, twice more 4x3x2, 6x5x2, 3x2x2, 3x2x3, 3x2x2, 1x1x12 and 1x1x2.
	want := []int{24, 24, 60, 12 * 4, 18 * 8, 12 * 4, 12, 24}
	elems := []int{24, 24, 60, 12, 18, 12, 12, 2}
	sum := 1
	for i := range l {
		sum += want[i]
		checkBlock(t, api.Block{Nodes: l[:i+1]}, s432, 5, sum, api.OK)
		checkBlock(t, api.Block{Nodes: l[:i+1], Exit: true}, s432, 5, sum+5*(elems[i]+1), api.OK)
	}
	checkOut(t, api.Block{Nodes: l}, s432, api.Shape{H: 1, W: 1, C: 2}, api.OK)
	checkOut(t, api.Block{Nodes: l[:5]}, s432, api.Shape{H: 3, W: 2, C: 3}, api.OK)
	checkOut(t, api.Block{Nodes: l[:3]}, s432, api.Shape{H: 6, W: 5, C: 2}, api.OK)
	checkOut(t, api.Block{Nodes: []api.Node{flat}}, six, api.Shape{H: 1, W: 1, C: 6}, api.OK)
}

// P31.2: no classes below 0 and none above the limit are paid for; what an exit has is not looked at, nor is there
// anything to pay without one.
func TestExits(t *testing.T) {
	heads := []api.Head{{}, {W: sample.Numbers(9), Bias: []int32{1, 2, 3}, Need: -1}, {W: make([]int8, 48), Bias: make([]int32, 2), Need: 9}}
	for _, s := range sample.Shapes() {
		elems := s.H * s.W * s.C
		for _, h := range heads {
			b := api.Block{Nodes: []api.Node{flat}, Head: h}
			for classes := -3; classes <= 40; classes++ {
				b.Exit = false
				checkBlock(t, b, s, classes, 1+elems, api.OK)
				b.Exit = true
				checkBlock(t, b, s, classes, 1+elems+min(max(classes, 0), 16)*(elems+1), api.OK)
				checkOut(t, b, s, api.Shape{H: 1, W: 1, C: elems}, api.OK)
			}
			for _, far := range sample.Far() {
				paid := 16
				if far < 0 {
					paid = 0
				}
				checkBlock(t, b, s, far, 1+elems+paid*(elems+1), api.OK)
			}
		}
	}
}

// value is what all nodes of a block cost, and 1; and the shape that goes out.
func value(l []api.Node, in api.Shape) (int, api.Shape) {
	shapes, _, _ := graph.Shapes(l, in)
	sum := 1
	for i, n := range l {
		sum += price(n, shapes[n.A], shapes[i+1])
	}
	return sum, shapes[len(l)]
}

// P31.2, P31.4: blocks of nodes of all kinds, each of which costs more than without its last node.
func TestBlock(t *testing.T) {
	lot.Blocks(func(l []api.Node, shapes []api.Shape, x api.Tensor) {
		want, out := value(l, x.Shape)
		elems := out.H * out.W * out.C
		checkBlock(t, api.Block{Nodes: l}, x.Shape, 3, want, api.OK)
		checkBlock(t, api.Block{Nodes: l, Exit: true}, x.Shape, 3, want+3*(elems+1), api.OK)
		checkOut(t, api.Block{Nodes: l}, x.Shape, out, api.OK)
		checkOut(t, api.Block{Nodes: l, Exit: true}, x.Shape, out, api.OK)
		before := 1
		for i := range l {
			got, err := cost.Block(api.Block{Nodes: l[:i+1]}, x.Shape, 0)
			if got <= before || err != api.OK {
				t.Fatalf("%d nodes of %+v cost %d, fewer cost %d", i+1, l, got, before)
			}
			before = got
		}
	})
}

// P31.2: what is wrong with the nodes of a block or with the shape that comes in.
func TestWrongBlocks(t *testing.T) {
	told := map[api.Errno]int{}
	lot.WrongBlocks(func(l []api.Node, x api.Tensor, at int, err api.Errno) {
		for _, b := range []api.Block{{Nodes: l}, {Nodes: l, Exit: true}, {Nodes: l, Head: api.Head{Need: -1}}} {
			checkBlock(t, b, x.Shape, 2, 0, err)
			checkBlock(t, b, x.Shape, -1, 0, err)
			checkOut(t, b, x.Shape, api.Shape{}, err)
		}
		told[err]++
	})
	for _, err := range []api.Errno{api.ErrShape, api.ErrEmpty, api.ErrFull, api.ErrKind, api.ErrArg, api.ErrQuant, api.ErrValue, api.ErrWeights} {
		if told[err] == 0 {
			t.Errorf("only %v was told", told)
		}
	}
}

// P31.3: tables written out.
func TestTableByHand(t *testing.T) {
	block := api.Block{Nodes: []api.Node{flat}}
	exit := api.Block{Nodes: []api.Node{flat}, Exit: true}
	pool := api.Block{Nodes: []api.Node{{Kind: api.MaxPool, K: 2, S: 1}}, Exit: true}
	model := func(l ...api.Block) api.Model { return api.Model{Blocks: l} }
	u := api.Bundle{Input: api.Shape{H: 2, W: 3, C: 2}, Classes: 3}
	checkTable(t, u, nil, api.OK)
	u.Models = []api.Model{model(exit)}
	checkTable(t, u, [][]int{{13 + 3*13}}, api.OK)
	// What goes out of a block comes into the next one; each model begins with the input.
	u.Models = []api.Model{model(pool, block, exit), model(block, block), model(pool)}
	checkTable(t, u, [][]int{{1 + 16 + 3*5, 5, 5 + 3*5}, {13, 13}, {1 + 16 + 3*5}}, api.OK)
	u.Models = []api.Model{model(), model(exit), model()}
	checkTable(t, u, [][]int{nil, {13 + 3*13}, nil}, api.OK)
	for _, c := range []struct{ classes, paid int }{{-1, 0}, {0, 0}, {1, 1}, {16, 16}, {17, 16}, {math.MinInt64, 0}, {math.MaxInt64, 16}} {
		u.Classes = c.classes
		checkTable(t, u, [][]int{nil, {13 + c.paid*13}, nil}, api.OK)
	}
	// Without blocks no shape is looked at. There may be more models and blocks than in a valid bundle.
	checkTable(t, api.Bundle{}, nil, api.OK)
	checkTable(t, api.Bundle{Models: make([]api.Model, 5)}, make([][]int, 5), api.OK)
	u.Models = slices.Repeat([]api.Model{model(slices.Repeat([]api.Block{block}, 9)...)}, 7)
	checkTable(t, u, slices.Repeat([][]int{slices.Repeat([]int{13}, 9)}, 7), api.OK)
}

// P31.3: bundles of as many models and blocks as there may be.
func TestTable(t *testing.T) {
	lot.Bundles(func(u api.Bundle) {
		var want [][]int
		for _, m := range u.Models {
			var row []int
			in := u.Input
			for _, b := range m.Blocks {
				sum, out := value(b.Nodes, in)
				if b.Exit {
					sum += u.Classes * (out.H*out.W*out.C + 1)
				}
				row, in = append(row, sum), out
			}
			want = append(want, row)
		}
		checkTable(t, u, want, api.OK)
		least, most, all := want[0][0], 0, 0
		for _, row := range want {
			for _, c := range row {
				least, most, all = min(least, c), max(most, c), all+c
			}
		}
		checkEnds(t, want, least, most, all)
		if least < 1 {
			t.Fatalf("a block costs %d", least)
		}
	})
}

// P31.3: the first error is told, whatever is wrong behind it.
func TestWrongTables(t *testing.T) {
	wrongs := []struct {
		nodes []api.Node
		err   api.Errno
	}{
		{nil, api.ErrEmpty}, {slices.Repeat([]api.Node{flat}, 9), api.ErrFull}, {[]api.Node{flat, {Kind: 10}}, api.ErrKind}, {[]api.Node{{Kind: api.Flat, P: 1}}, api.ErrArg},
		{[]api.Node{{Kind: api.Act}}, api.ErrQuant}, {[]api.Node{{Kind: api.Flat, A: 1}}, api.ErrValue}, {[]api.Node{{Kind: api.Dense, Out: 1, Q: one}}, api.ErrWeights},
		{[]api.Node{{Kind: api.Pad, P: 4}, {Kind: api.Pad, A: 1, P: 4}}, api.ErrShape},
	}
	at := 0
	lot.Bundles(func(u api.Bundle) {
		for i, m := range u.Models {
			for j := range m.Blocks {
				first, later := wrongs[at%len(wrongs)], wrongs[(at+1)%len(wrongs)]
				at++
				w := u
				w.Models = slices.Clone(u.Models)
				for k := range w.Models {
					w.Models[k].Blocks = slices.Clone(u.Models[k].Blocks)
				}
				w.Models[i].Blocks[j].Nodes = first.nodes
				checkTable(t, w, nil, first.err)
				if j+1 < len(m.Blocks) {
					w.Models[i].Blocks[j+1].Nodes = later.nodes
				} else if i+1 < len(u.Models) {
					w.Models[i+1].Blocks[0].Nodes = later.nodes
				}
				checkTable(t, w, nil, first.err)
			}
		}
		for _, s := range sample.WrongShapes() {
			u.Input = s
			checkTable(t, u, nil, api.ErrShape)
		}
	})
	// A block that cannot take what goes out of the one before.
	pool := api.Block{Nodes: []api.Node{{Kind: api.AvgPool, K: 2, S: 1}}}
	m := api.Model{Blocks: []api.Block{pool, pool}}
	checkTable(t, api.Bundle{Input: api.Shape{H: 3, W: 3, C: 1}, Models: []api.Model{m}}, [][]int{{17, 5}}, api.OK)
	checkTable(t, api.Bundle{Input: api.Shape{H: 2, W: 2, C: 1}, Models: []api.Model{m}}, nil, api.ErrShape)
}

// P31.3: ends written out; a table may have any numbers.
func TestEnds(t *testing.T) {
	checkEnds(t, nil, 0, 0, 0)
	checkEnds(t, [][]int{}, 0, 0, 0)
	checkEnds(t, [][]int{nil, {}, nil}, 0, 0, 0)
	checkEnds(t, [][]int{{7}}, 7, 7, 7)
	checkEnds(t, [][]int{{4, 2}, {9}}, 2, 9, 15)
	checkEnds(t, [][]int{{}, {4, 2}, {}, {9, 3, 9}}, 2, 9, 27)
	checkEnds(t, [][]int{{9}, {4}, {2}, {5}}, 2, 9, 20)
	checkEnds(t, [][]int{{2, 5, 9}}, 2, 9, 16)
	checkEnds(t, [][]int{{0, 0}, {0}}, 0, 0, 0)
	checkEnds(t, [][]int{{5}, {0}}, 0, 5, 5)
	checkEnds(t, [][]int{{-5, -3}, {-4}}, -5, -3, -12)
	checkEnds(t, [][]int{{-5, 8}}, -5, 8, 3)
	checkEnds(t, [][]int{{math.MaxInt64}}, math.MaxInt64, math.MaxInt64, math.MaxInt64)
	checkEnds(t, [][]int{{math.MinInt64}}, math.MinInt64, math.MinInt64, math.MinInt64)
	checkEnds(t, [][]int{{math.MinInt64}, {math.MaxInt64}}, math.MinInt64, math.MaxInt64, -1)
	checkEnds(t, [][]int{slices.Repeat([]int{3}, 100000), {1}}, 1, 3, 300001)
}

// Rule 2: what is passed stays as it is, up to its capacity, and shares nothing with a table; no two rows share anything.
func TestNothingIsShared(t *testing.T) {
	lot.Blocks(func(l []api.Node, shapes []api.Shape, x api.Tensor) {
		b := api.Block{Nodes: lot.Wide(l), Exit: true}
		cost.Block(b, x.Shape, 3)
		cost.Out(b, x.Shape)
		cost.Table(api.Bundle{Input: x.Shape, Classes: 2, Models: []api.Model{{Blocks: []api.Block{b}}}})
		for _, n := range b.Nodes {
			cost.Node(n, shapes[n.A], shapes[n.B])
		}
		if !lot.Kept(b.Nodes, l) {
			t.Fatalf("%+v changed", l)
		}
	})
	lot.Bundles(func(u api.Bundle) {
		want, _ := cost.Table(u)
		first, _ := cost.Table(u)
		for i, row := range first {
			for range 9 {
				row = append(row, -7)
			}
			clear(row[:cap(row)])
			if !slices.EqualFunc(first[i+1:], want[i+1:], slices.Equal[[]int]) {
				t.Fatalf("a row changed with row %d of %d", i, want)
			}
		}
		checkTable(t, u, want, api.OK)
	})
	table := [][]int{[]int{1, 2, 3}[:2], {4, 5}}[:1]
	cost.Ends(table)
	if !slices.Equal(table[0][:3], []int{1, 2, 3}) || !slices.Equal(table[:2][1], []int{4, 5}) {
		t.Error("the table changed")
	}
}

// P1, rule 6: nodes whose fields are all far away.
func TestFarNodes(t *testing.T) {
	for _, far := range sample.Far() {
		for kind := -1; kind <= 10; kind++ {
			n := api.Node{Kind: kind, A: far, B: far, K: far, S: far, P: far, Out: far, Q: api.Quant{Mult: 1, Shift: far}}
			_, err := kinds.Shape(n, s432, s432)
			if got := cost.Node(n, s432, s432); got != 0 && err != api.OK {
				t.Errorf("Node(%+v) = %d", n, got)
			}
			_, _, err = graph.Shapes([]api.Node{flat, n}, s432)
			b := api.Block{Nodes: []api.Node{flat, n}}
			if err == api.OK {
				t.Fatalf("%+v has nothing wrong", n)
			}
			checkBlock(t, b, s432, far, 0, err)
			checkOut(t, b, s432, api.Shape{}, err)
			checkTable(t, api.Bundle{Input: s432, Classes: far, Models: []api.Model{{Blocks: []api.Block{b}}}}, nil, err)
		}
	}
}
