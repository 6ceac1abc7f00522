package pack_test

import (
	"bytes"
	"math"
	"reflect"
	"slices"
	"testing"

	"stepwell/api"
	"stepwell/kinds"
	"stepwell/leb"
	"stepwell/lot"
	"stepwell/octet"
	"stepwell/pack"
	"stepwell/sample"
)

const (
	min32 = math.MinInt32
	max32 = math.MaxInt32
)

var (
	one  = api.Quant{Mult: 1}
	flat = api.Node{Kind: api.Flat}
	act  = api.Node{Kind: api.Act, Q: one, Hi: 9}
)

// full is a node of a kind, with nothing wrong.
func full(kind int) api.Node {
	return kinds.Plain(api.Node{
		Kind: kind, A: 1, B: 2, K: 3, S: 4, P: 5, Out: 300, ZA: -1, ZB: -2, W: []int8{9, -9}, Bias: []int32{64, -64, 0},
		Q: api.Quant{Mult: 200, Shift: 12, Zero: -3}, R: api.Quant{Mult: 14, Shift: 62}, Lo: -128, Hi: 127,
	})
}

// letters is a kind's fields in the order of their bytes, behind Kind and A.
func letters(kind int) string {
	switch kind {
	case api.Conv:
		return "KSPOyWbms0lh"
	case api.Depth:
		return "KSPyWbms0lh"
	case api.Dense:
		return "OyWbms0lh"
	case api.MaxPool, api.AvgPool:
		return "KSP"
	case api.Join:
		return "Byzms0MTlh"
	case api.Act:
		return "yms0lh"
	case api.Pad:
		return "Py"
	}
	return ""
}

// spellers is the bytes of each letter's field, by the words of the chapter.
func spellers(n api.Node) map[rune][]byte {
	list := func(size int, b []byte) []byte { return append(number(size), b...) }
	return map[rune][]byte{
		'B': number(n.B), 'K': number(n.K), 'S': number(n.S), 'P': number(n.P), 'O': number(n.Out), 'y': {byte(n.ZA)}, 'z': {byte(n.ZB)},
		'W': list(len(n.W), octet.Small(n.W)), 'b': list(len(n.Bias), octet.Wide(n.Bias)),
		'm': number(int(n.Q.Mult)), 's': number(n.Q.Shift), '0': {byte(n.Q.Zero)}, 'M': number(int(n.R.Mult)), 'T': number(n.R.Shift), 'l': {byte(n.Lo)}, 'h': {byte(n.Hi)},
	}
}

func number(n int) []byte { return leb.Put(uint64(n)) }

func spellNode(n api.Node) []byte {
	b := append(number(n.Kind), number(n.A)...)
	for _, letter := range letters(n.Kind) {
		b = append(b, spellers(n)[letter]...)
	}
	return b
}

func spellBlock(k api.Block) []byte {
	b := number(len(k.Nodes))
	for _, n := range k.Nodes {
		b = append(b, spellNode(n)...)
	}
	if !k.Exit {
		return append(b, 0)
	}
	return slices.Concat(b, []byte{1}, number(len(k.Head.W)), octet.Small(k.Head.W), number(len(k.Head.Bias)), octet.Wide(k.Head.Bias), number(int(k.Head.Need)))
}

func spellModel(m api.Model) []byte {
	b := number(len(m.Blocks))
	for _, k := range m.Blocks {
		b = append(b, spellBlock(k)...)
	}
	return b
}

// bare is a value without the difference between an empty list and none.
func bare(v any) any {
	switch x := v.(type) {
	case api.Node:
		x.W, x.Bias = append([]int8(nil), x.W...), append([]int32(nil), x.Bias...)
		return x
	case api.Block:
		var l []api.Node
		for _, n := range x.Nodes {
			l = append(l, bare(n).(api.Node))
		}
		x.Nodes, x.Head.W, x.Head.Bias = l, append([]int8(nil), x.Head.W...), append([]int32(nil), x.Head.Bias...)
		return x
	case api.Model:
		var l []api.Block
		for _, b := range x.Blocks {
			l = append(l, bare(b).(api.Block))
		}
		return api.Model{Blocks: l}
	}
	return v
}

func same(a, b any) bool { return reflect.DeepEqual(bare(a), bare(b)) }

// tails are bytes that may follow what is read.
func tails() [][]byte {
	return [][]byte{nil, {0}, {1}, {127}, {128}, {255, 255}, bytes.Repeat([]byte{128}, 12), bytes.Repeat([]byte{1}, 99)}
}

// check tells whether a value has these bytes, and whether these are read back, with their last byte and not without it.
func check[T any](t *testing.T, v T, want []byte, put func(T) ([]byte, api.Errno), take func(*octet.Reader) (T, api.Errno)) {
	t.Helper()
	got, err := put(v)
	if !bytes.Equal(got, want) || err != api.OK {
		t.Fatalf("%+v has the bytes %d, %d, want %d", v, got, err, want)
	}
	for _, tail := range tails() {
		r := octet.Read(slices.Concat(want, tail))
		back, err := take(r)
		if !same(back, v) || err != api.OK || r.Left() != len(tail) {
			t.Fatalf("of %d and %d, %+v is read, %d, with %d left, want %+v", want, tail, back, err, r.Left(), v)
		}
		if again, err := put(back); !bytes.Equal(again, want) || err != api.OK {
			t.Fatalf("%+v was read, and has the bytes %d, %d, want %d", back, again, err, want)
		}
	}
	checkTake(t, want[:len(want)-1], take, api.ErrShort, 0)
}

// checkPut tells whether a value has no bytes, for this error.
func checkPut[T any](t *testing.T, v T, put func(T) ([]byte, api.Errno), want api.Errno) {
	t.Helper()
	if got, err := put(v); len(got) != 0 || err != want {
		t.Fatalf("%+v has the bytes %d, %d, want %d", v, got, err, want)
	}
}

// checkTake tells whether nothing is read of some bytes, for this error, and how many are left.
func checkTake[T any](t *testing.T, b []byte, take func(*octet.Reader) (T, api.Errno), want api.Errno, left int) {
	t.Helper()
	var none T
	r := octet.Read(b)
	if got, err := take(r); !reflect.DeepEqual(got, none) || err != want || r.Left() != left {
		t.Fatalf("of %d, %+v is read, %d, with %d left, want %d, with %d", b, got, err, r.Left(), want, left)
	}
}

func checkNode(t *testing.T, n api.Node, want []byte) {
	t.Helper()
	check(t, n, want, pack.Node, pack.TakeNode)
}

func checkBlock(t *testing.T, b api.Block, want []byte) {
	t.Helper()
	check(t, b, want, pack.Block, pack.TakeBlock)
}

func checkModel(t *testing.T, m api.Model, want []byte) {
	t.Helper()
	check(t, m, want, pack.Model, pack.TakeModel)
}

// P34.1, P34.2: bytes written out, for all kinds.
func TestNodesByHand(t *testing.T) {
	checkNode(t, flat, []byte{9, 0})
	checkNode(t, full(api.Conv), []byte{1, 1, 3, 4, 5, 172, 2, 255, 2, 9, 247, 3, 128, 1, 127, 0, 200, 1, 12, 253, 128, 127})
	checkNode(t, full(api.Depth), []byte{2, 1, 3, 4, 5, 255, 2, 9, 247, 3, 128, 1, 127, 0, 200, 1, 12, 253, 128, 127})
	checkNode(t, full(api.Dense), []byte{3, 1, 172, 2, 255, 2, 9, 247, 3, 128, 1, 127, 0, 200, 1, 12, 253, 128, 127})
	checkNode(t, full(api.MaxPool), []byte{4, 1, 3, 4, 5})
	checkNode(t, full(api.AvgPool), []byte{5, 1, 3, 4, 5})
	checkNode(t, full(api.Join), []byte{6, 1, 2, 255, 254, 200, 1, 12, 253, 14, 62, 128, 127})
	checkNode(t, full(api.Act), []byte{7, 1, 255, 200, 1, 12, 253, 128, 127})
	checkNode(t, full(api.Pad), []byte{8, 1, 5, 255})
	checkNode(t, full(api.Flat), []byte{9, 1})
	checkNode(t, api.Node{Kind: api.Flat, A: 1024}, []byte{9, 128, 8})
	checkNode(t, api.Node{Kind: api.MaxPool, K: 1024, S: 1024, P: 1024}, []byte{4, 0, 128, 8, 128, 8, 128, 8})
	checkNode(t, api.Node{Kind: api.Dense, Q: one, Out: 1024}, []byte{3, 0, 128, 8, 0, 0, 0, 1, 0, 0, 0, 0})
	checkNode(t, api.Node{Kind: api.Join, B: 1024, Q: api.Quant{Mult: max32, Shift: 62}, R: one}, []byte{6, 0, 128, 8, 0, 0, 255, 255, 255, 255, 7, 62, 0, 1, 0, 0, 0})
	checkNode(t, api.Node{Kind: api.Depth, Q: one, Bias: []int32{min32, max32}}, []byte{2, 0, 0, 0, 0, 0, 0, 2, 255, 255, 255, 255, 15, 254, 255, 255, 255, 15, 1, 0, 0, 0, 0})
}

// P34.1, P34.2
func TestBlocksAndModelsByHand(t *testing.T) {
	checkBlock(t, api.Block{}, []byte{0, 0})
	checkBlock(t, api.Block{Exit: true}, []byte{0, 1, 0, 0, 0})
	checkBlock(t, api.Block{Nodes: []api.Node{flat, full(api.Pad)}}, []byte{2, 9, 0, 8, 1, 5, 255, 0})
	exit := api.Block{Nodes: []api.Node{flat}, Exit: true, Head: api.Head{W: []int8{1, 2, 3, -4}, Bias: []int32{-1, 64}, Need: 128}}
	bytes := []byte{1, 9, 0, 1, 4, 1, 2, 3, 252, 2, 1, 128, 1, 128, 1}
	checkBlock(t, exit, bytes)
	checkBlock(t, api.Block{Exit: true, Head: api.Head{Need: max32}}, []byte{0, 1, 0, 0, 255, 255, 255, 255, 7})
	checkModel(t, api.Model{}, []byte{0})
	checkModel(t, api.Model{Blocks: []api.Block{{}}}, []byte{1, 0, 0})
	checkModel(t, api.Model{Blocks: []api.Block{{}, exit, {Nodes: []api.Node{flat}}}}, slices.Concat([]byte{3, 0, 0}, bytes, []byte{1, 9, 0, 0}))
}

// P34.1, P34.2: as many nodes and blocks as there may be.
func TestMost(t *testing.T) {
	for many := range api.MaxNodes + 1 {
		b := api.Block{Nodes: slices.Repeat([]api.Node{flat}, many)}
		checkBlock(t, b, slices.Concat([]byte{byte(many)}, bytes.Repeat([]byte{9, 0}, many), []byte{0}))
	}
	for many := range api.MaxBlocks + 1 {
		m := api.Model{Blocks: make([]api.Block, many)}
		checkModel(t, m, slices.Concat([]byte{byte(many)}, make([]byte, 2*many)))
	}
	for _, many := range []int{9, 10, 127, 128, 264, 1000} {
		checkPut(t, api.Block{Nodes: slices.Repeat([]api.Node{flat}, many)}, pack.Block, api.ErrFull)
		checkTake(t, slices.Concat(number(many), bytes.Repeat([]byte{9, 0}, many), []byte{0}), pack.TakeBlock, api.ErrRange, 0)
	}
	for _, many := range []int{7, 8, 127, 128, 262, 1000} {
		checkPut(t, api.Model{Blocks: make([]api.Block, many)}, pack.Model, api.ErrFull)
		checkTake(t, slices.Concat(number(many), make([]byte, 2*many)), pack.TakeModel, api.ErrRange, 0)
	}
}

// P34.1, P34.2: as many weights and biases as there may be, and more.
func TestWeights(t *testing.T) {
	small, wide := sample.Numbers(api.MaxWeights+1), make([]int32, api.MaxWeights+1)
	for i := range wide {
		wide[i] = int32(i*i*i) - 99
	}
	for _, kind := range []int{api.Conv, api.Depth, api.Dense} {
		for _, size := range []int{0, 1, 127, 128, api.MaxWeights - 1, api.MaxWeights} {
			n := full(kind)
			n.W, n.Bias = small[:size], wide[:size]
			checkNode(t, n, spellNode(n))
			b := api.Block{Nodes: []api.Node{n}, Exit: true, Head: api.Head{W: n.W, Bias: n.Bias}}
			checkBlock(t, b, spellBlock(b))
		}
		for _, by := range []func(w *[]int8, bias *[]int32){
			func(w *[]int8, bias *[]int32) { *w = small },
			func(w *[]int8, bias *[]int32) { *bias = wide },
			func(w *[]int8, bias *[]int32) { *w, *bias = make([]int8, 1<<20), make([]int32, 1<<20) },
		} {
			n, b := full(kind), api.Block{Exit: true, Head: api.Head{Need: 5}}
			by(&n.W, &n.Bias)
			checkPut(t, n, pack.Node, api.ErrRange)
			checkTake(t, spellNode(n), pack.TakeNode, api.ErrRange, 0)
			by(&b.Head.W, &b.Head.Bias)
			checkPut(t, b, pack.Block, api.ErrRange)
			checkTake(t, spellBlock(b), pack.TakeBlock, api.ErrRange, 0)
		}
	}
}

// numbers is where a node's numbers are that are from 0 to 1024.
func numbers(n *api.Node) []*int { return []*int{&n.A, &n.B, &n.K, &n.S, &n.P, &n.Out} }

// P34.1: each number that is not from 0 to 1024; what kinds.Check tells comes first.
func TestNodeRange(t *testing.T) {
	for kind := api.Conv; kind <= api.Flat; kind++ {
		right := full(kind)
		for i, own := range numbers(&right) {
			for _, v := range append([]int{1025, 1026, 2048, 1 << 14}, sample.Far()...) {
				n := right
				*numbers(&n)[i] = v
				switch {
				case *own == 0:
					checkPut(t, n, pack.Node, api.ErrArg)
				case v >= 0 && v <= 1024:
					checkNode(t, n, spellNode(n))
				default:
					checkPut(t, n, pack.Node, api.ErrRange)
					n.Kind = 0
					checkPut(t, n, pack.Node, api.ErrKind)
					n.Kind, n.R.Zero = kind, 1
					checkPut(t, n, pack.Node, api.ErrArg)
				}
			}
		}
	}
	far := api.Node{Kind: api.Conv, A: -1, K: 1025, Q: one, Lo: 1, W: make([]int8, api.MaxWeights+1)}
	checkPut(t, far, pack.Node, api.ErrArg)
	far.Q.Mult = 0
	checkPut(t, far, pack.Node, api.ErrQuant)
	far.B = -1
	checkPut(t, far, pack.Node, api.ErrArg)
	far.Kind = 10
	checkPut(t, far, pack.Node, api.ErrKind)
}

// P34.1: nodes with all that kinds.Check tells of them.
func TestWrongNodes(t *testing.T) {
	told := map[api.Errno]int{}
	lot.WrongNodes(func(l []api.Node, _ api.Tensor, at int, _ api.Errno) {
		n := l[at]
		err := kinds.Check(n)
		if err == api.OK {
			return
		}
		told[err]++
		checkPut(t, n, pack.Node, err)
		right := slices.DeleteFunc(slices.Clone(l[:at]), func(n api.Node) bool { return kinds.Check(n) != api.OK })
		b := api.Block{Nodes: append(right, n, api.Node{Kind: 77}), Head: api.Head{Need: -1}}
		b.Nodes = b.Nodes[:min(len(b.Nodes), api.MaxNodes)]
		checkPut(t, b, pack.Block, err)
		checkPut(t, api.Model{Blocks: []api.Block{{}, b, {Nodes: make([]api.Node, 9)}}}, pack.Model, err)
	})
	for _, err := range []api.Errno{api.ErrKind, api.ErrArg, api.ErrQuant} {
		if told[err] == 0 {
			t.Errorf("only %v was told", told)
		}
	}
}

// P34.1: what is wrong with blocks and models, in the order in which it is told.
func TestWrongBlocks(t *testing.T) {
	bad, far := api.Node{Kind: 10}, api.Node{Kind: api.Flat, A: 1025}
	nine := slices.Repeat([]api.Node{bad}, 9)
	some := api.Head{W: []int8{0}, Bias: []int32{0}, Need: -1}
	many := api.Head{W: make([]int8, api.MaxWeights+1), Need: 1}
	for _, c := range []struct {
		b    api.Block
		want api.Errno
	}{
		{api.Block{Nodes: nine, Head: some}, api.ErrFull}, {api.Block{Nodes: nine, Exit: true, Head: some}, api.ErrFull}, {api.Block{Nodes: nine[:8], Head: some}, api.ErrKind}, {api.Block{Nodes: nine[:1], Exit: true, Head: many}, api.ErrKind},
		{api.Block{Nodes: []api.Node{far, bad}, Head: some}, api.ErrRange}, {api.Block{Nodes: []api.Node{bad, far}, Head: some}, api.ErrKind}, {api.Block{Nodes: []api.Node{flat, far, bad}, Exit: true}, api.ErrRange},
		{api.Block{Head: some}, api.ErrExit}, {api.Block{Head: many}, api.ErrExit}, {api.Block{Nodes: []api.Node{flat}, Head: api.Head{W: []int8{0}}}, api.ErrExit}, {api.Block{Head: api.Head{Bias: []int32{0}}}, api.ErrExit},
		{api.Block{Head: api.Head{Need: 1}}, api.ErrExit}, {api.Block{Head: api.Head{Need: -1}}, api.ErrExit}, {api.Block{Head: api.Head{Need: min32}}, api.ErrExit}, {api.Block{Head: api.Head{Bias: make([]int32, api.MaxWeights+1)}}, api.ErrExit},
		{api.Block{Exit: true, Head: some}, api.ErrRange}, {api.Block{Exit: true, Head: api.Head{Need: min32}}, api.ErrRange}, {api.Block{Nodes: []api.Node{flat}, Exit: true, Head: api.Head{Need: -1}}, api.ErrRange},
		{api.Block{Exit: true, Head: many}, api.ErrRange}, {api.Block{Exit: true, Head: api.Head{Bias: make([]int32, api.MaxWeights+1)}}, api.ErrRange},
	} {
		checkPut(t, c.b, pack.Block, c.want)
		checkPut(t, api.Model{Blocks: []api.Block{c.b}}, pack.Model, c.want)
		checkPut(t, api.Model{Blocks: []api.Block{{}, c.b, {Nodes: nine}, {Head: some}}}, pack.Model, c.want)
		checkPut(t, api.Model{Blocks: slices.Repeat([]api.Block{c.b}, 6)}, pack.Model, c.want)
		checkPut(t, api.Model{Blocks: slices.Repeat([]api.Block{c.b}, 7)}, pack.Model, api.ErrFull)
	}
	empty := api.Head{W: []int8{1, 2}[:0], Bias: []int32{3}[:0]}
	checkBlock(t, api.Block{Nodes: []api.Node{}, Head: empty}, []byte{0, 0})
}
