package pack_test

import (
	"reflect"
	"slices"
	"testing"

	"stepwell/api"
	"stepwell/kinds"
	"stepwell/lot"
	"stepwell/octet"
	"stepwell/pack"
	"stepwell/sample"
)

// A model reads by the words of P34.2, each field as its letter says.
type taker struct {
	r   *octet.Reader
	err api.Errno
}

// failed keeps the first error.
func (k *taker) failed() bool {
	if end := k.r.End(); k.err == api.OK && end != api.ErrTrailing {
		k.err = end
	}
	return k.err != api.OK
}

func (k *taker) byte() (v int8) {
	if l := k.r.Small(1); len(l) == 1 {
		v = l[0]
	}
	return v
}

func (k *taker) field(n *api.Node, letter rune) {
	r := k.r
	switch letter {
	case 'B':
		n.B = r.Count(1024)
	case 'K':
		n.K = r.Count(1024)
	case 'S':
		n.S = r.Count(1024)
	case 'P':
		n.P = r.Count(1024)
	case 'O':
		n.Out = r.Count(1024)
	case 'y':
		n.ZA = k.byte()
	case 'z':
		n.ZB = k.byte()
	case 'W':
		n.W = r.Small(r.Count(api.MaxWeights))
	case 'b':
		n.Bias = r.Wide(r.Count(api.MaxWeights))
	case 'm':
		n.Q.Mult = int32(r.Count(max32))
	case 's':
		n.Q.Shift = r.Count(api.MaxShift)
	case '0':
		n.Q.Zero = k.byte()
	case 'M':
		n.R.Mult = int32(r.Count(max32))
	case 'T':
		n.R.Shift = r.Count(api.MaxShift)
	case 'l':
		n.Lo = k.byte()
	case 'h':
		n.Hi = k.byte()
	}
}

func (k *taker) node() (n api.Node) {
	n.Kind = k.r.Count(9)
	n.A = k.r.Count(1024)
	for _, letter := range letters(n.Kind) {
		k.field(&n, letter)
	}
	if !k.failed() {
		k.err = kinds.Check(n)
	}
	return n
}

func (k *taker) block() (b api.Block) {
	for range k.r.Count(api.MaxNodes) {
		b.Nodes = append(b.Nodes, k.node())
		if k.failed() {
			return b
		}
	}
	if b.Exit = k.r.Count(1) == 1; b.Exit {
		b.Head.W = k.r.Small(k.r.Count(api.MaxWeights))
		b.Head.Bias = k.r.Wide(k.r.Count(api.MaxWeights))
		b.Head.Need = int32(k.r.Count(max32))
	}
	return b
}

func (k *taker) model() (m api.Model) {
	for range k.r.Count(api.MaxBlocks) {
		m.Blocks = append(m.Blocks, k.block())
		if k.failed() {
			return m
		}
	}
	return m
}

// compare reads some bytes by the model too, and tells whether both take the same; and if so, whether it has these bytes.
func compare[T any](t *testing.T, b []byte, by func(*taker) T, take func(*octet.Reader) (T, api.Errno), put func(T) ([]byte, api.Errno)) api.Errno {
	t.Helper()
	k := taker{r: octet.Read(b)}
	want := by(&k)
	if k.failed() {
		checkTake(t, b, take, k.err, k.r.Left())
		return k.err
	}
	r := octet.Read(b)
	got, err := take(r)
	if !same(got, want) || err != api.OK || r.Left() != k.r.Left() {
		t.Fatalf("of %d, %+v is read, %d, with %d left, want %+v, with %d", b, got, err, r.Left(), want, k.r.Left())
	}
	read := b[:len(b)-r.Left()]
	if again, err := put(got); !slices.Equal(again, read) || err != api.OK {
		t.Fatalf("%+v was read of %d, and has the bytes %d, %d", got, read, again, err)
	}
	return api.OK
}

// compareAll compares some bytes as a node's, as a block's and as a model's, and counts what is told.
func compareAll(t *testing.T, b []byte, told map[api.Errno]int) {
	t.Helper()
	told[compare(t, b, (*taker).node, pack.TakeNode, pack.Node)]++
	told[compare(t, b, (*taker).block, pack.TakeBlock, pack.Block)]++
	told[compare(t, b, (*taker).model, pack.TakeModel, pack.Model)]++
}

func checkTold(t *testing.T, told map[api.Errno]int, want ...api.Errno) {
	t.Helper()
	for _, err := range want {
		if told[err] == 0 {
			t.Errorf("only %v was told", told)
		}
	}
}

// P34.1, P34.3: nodes, blocks and models of all sizes, whatever follows.
func TestDrawn(t *testing.T) {
	lot.Blocks(func(l []api.Node, _ []api.Shape, _ api.Tensor) {
		for _, n := range l {
			checkNode(t, n, spellNode(n))
		}
		b := api.Block{Nodes: l}
		checkBlock(t, b, spellBlock(b))
	})
	lot.Bundles(func(u api.Bundle) {
		for _, m := range u.Models {
			for _, b := range m.Blocks {
				checkBlock(t, b, spellBlock(b))
			}
			checkModel(t, m, spellModel(m))
		}
	})
}

// P34.2: any bytes, some of which are those of nodes, blocks and models but for a few, or end too early.
func TestTakeAnything(t *testing.T) {
	next := lot.From(7)
	told := map[api.Errno]int{}
	for range 60000 {
		b := make([]byte, next(0, 30))
		for i := range b {
			b[i] = byte(next(0, []int{3, 12, 255}[next(0, 2)]))
		}
		compareAll(t, b, told)
	}
	spoil := func(b []byte) {
		for range 40 {
			s := slices.Clone(b)
			for range next(1, 3) {
				at := next(0, len(s)-1)
				switch next(0, 3) {
				case 0:
					s[at] = byte(next(0, 255))
				case 1:
					s[at]++
				case 2:
					s = slices.Insert(s, at, byte(next(0, 255)))
				case 3:
					s = s[:max(at, 1)]
				}
			}
			compareAll(t, s, told)
		}
	}
	for kind := api.Conv; kind <= api.Flat; kind++ {
		n := full(kind)
		for range 10 {
			spoil(spellNode(n))
			spoil(spellBlock(api.Block{Nodes: []api.Node{n, flat, n}, Exit: true, Head: api.Head{W: n.W, Bias: n.Bias, Need: 300}}))
			spoil(spellModel(api.Model{Blocks: []api.Block{{Nodes: []api.Node{act, n}}, {Nodes: []api.Node{n}, Exit: true}}}))
		}
	}
	checkTold(t, told, api.OK, api.ErrArg, api.ErrRange, api.ErrKind, api.ErrQuant, api.ErrShort, api.ErrForm)
}

// P34.2: whatever ends too early is short, wherever it ends.
func TestTakeShort(t *testing.T) {
	var l []api.Node
	for kind := api.Conv; kind <= api.Flat; kind++ {
		n := full(kind)
		b := spellNode(n)
		for size := range b {
			checkTake(t, b[:size], pack.TakeNode, api.ErrShort, 0)
		}
		if l = append(l, n); len(l) > api.MaxNodes {
			l = l[1:]
		}
	}
	k := api.Block{Nodes: l, Exit: true, Head: api.Head{W: []int8{1, 2}, Bias: []int32{3, -300}, Need: 400}}
	b := spellBlock(k)
	for size := range b {
		checkTake(t, b[:size], pack.TakeBlock, api.ErrShort, 0)
	}
	b = spellModel(api.Model{Blocks: []api.Block{{}, k, {Nodes: l}}})
	for size := range b {
		checkTake(t, b[:size], pack.TakeModel, api.ErrShort, 0)
	}
}

// P34.2: each number by its limit, and a number of more bytes than it needs.
func TestTakeLimits(t *testing.T) {
	limits := map[rune]int{'B': 1024, 'K': 1024, 'S': 1024, 'P': 1024, 'O': 1024, 'W': api.MaxWeights, 'b': api.MaxWeights, 'm': max32, 's': api.MaxShift, 'M': max32, 'T': api.MaxShift}
	for kind := api.Conv; kind <= api.Flat; kind++ {
		n := full(kind)
		before := number(kind)
		checkTake(t, []byte{byte(kind + 128), 0, 0}, pack.TakeNode, api.ErrForm, 0)
		checkTake(t, append(before, 129, 8), pack.TakeNode, api.ErrRange, 0)
		checkTake(t, append(before, 129, 0, 0), pack.TakeNode, api.ErrForm, 0)
		before = append(before, 1)
		for i, letter := range letters(kind) {
			if most, ok := limits[letter]; ok {
				zeros := make([]byte, 9)
				checkTake(t, slices.Concat(before, number(most+1), zeros), pack.TakeNode, api.ErrRange, 0)
				checkTake(t, slices.Concat(before, number(1<<32), zeros), pack.TakeNode, api.ErrRange, 0)
				checkTake(t, slices.Concat(before, number(1<<63-1), zeros), pack.TakeNode, api.ErrRange, 0)
				checkTake(t, slices.Concat(before, []byte{128, 0}, zeros), pack.TakeNode, api.ErrForm, 0)
				// The limit itself is taken: what is missing is only what follows, if something does.
				if i < len(letters(kind))-1 {
					checkTake(t, slices.Concat(before, number(most)), pack.TakeNode, api.ErrShort, 0)
				}
			}
			before = append(before, spellers(n)[letter]...)
		}
	}
	for _, kind := range []int{10, 11, 127, 128, 265, 1 << 32, 1<<32 + 9} {
		checkTake(t, append(number(kind), 0, 0, 0, 0), pack.TakeNode, api.ErrRange, 0)
	}
	for _, c := range []struct {
		b    []byte
		want api.Errno
	}{
		{[]byte{0, 2}, api.ErrRange}, {[]byte{0, 128, 2}, api.ErrRange}, {[]byte{0, 129, 0}, api.ErrForm}, {[]byte{0, 1, 0, 0, 128, 128, 128, 128, 8}, api.ErrRange}, {[]byte{0, 1, 0, 0, 255, 255, 255, 255, 15}, api.ErrRange},
		{[]byte{0, 1, 0, 0, 128, 0}, api.ErrForm}, {[]byte{0, 1, 0, 1, 128, 128, 128, 128, 16, 0}, api.ErrRange}, {[]byte{0, 1, 0, 1, 128, 0, 0}, api.ErrForm}, {[]byte{0, 1, 129, 128, 1, 0, 0}, api.ErrRange}, {[]byte{0, 1, 0, 129, 128, 1, 0}, api.ErrRange},
	} {
		checkTake(t, c.b, pack.TakeBlock, c.want, 0)
		checkTake(t, append([]byte{1}, c.b...), pack.TakeModel, c.want, 0)
	}
}

// P34.2: what kinds.Check tells of a node is told as soon as all of it is read: not before, and before all that follows.
func TestTakeWrongNodes(t *testing.T) {
	act := []byte{7, 0, 0, 1, 0, 0, 0, 0}
	join := []byte{6, 0, 0, 0, 0, 1, 0, 0, 1, 0, 0, 0}
	with := func(b []byte, at int, v byte) []byte {
		b = slices.Clone(b)
		b[at] = v
		return b
	}
	for _, c := range []struct {
		b    []byte
		want api.Errno
	}{
		{[]byte{0, 0}, api.ErrKind}, {[]byte{0, 5}, api.ErrKind}, {with(act, 3, 0), api.ErrQuant}, {with(act, 7, 255), api.ErrArg}, {with(act, 6, 1), api.ErrArg}, {with(with(act, 3, 0), 6, 1), api.ErrQuant},
		{with(join, 5, 0), api.ErrQuant}, {with(join, 8, 0), api.ErrQuant}, {with(join, 10, 127), api.ErrArg}, {with(join, 11, 128), api.ErrArg}, {[]byte{3, 0, 1, 0, 0, 0, 0, 0, 0, 0, 0}, api.ErrQuant}, {[]byte{3, 0, 1, 0, 0, 0, 1, 0, 0, 1, 0}, api.ErrArg},
	} {
		for size := range c.b {
			checkTake(t, c.b[:size], pack.TakeNode, api.ErrShort, 0)
		}
		for _, tail := range append(tails(), act, []byte{10}, []byte{0, 0}) {
			checkTake(t, slices.Concat(c.b, tail), pack.TakeNode, c.want, len(tail))
			for _, before := range [][]byte{{1}, {8}, {3, 9, 0, 9, 0}, slices.Concat([]byte{2}, act)} {
				checkTake(t, slices.Concat(before, c.b, tail), pack.TakeBlock, c.want, len(tail))
				checkTake(t, slices.Concat([]byte{1}, before, c.b, tail), pack.TakeModel, c.want, len(tail))
				checkTake(t, slices.Concat([]byte{6, 0, 0, 1, 9, 0, 0}, before, c.b, tail), pack.TakeModel, c.want, len(tail))
			}
		}
		checkTake(t, slices.Concat([]byte{2, 9, 0, 10}, c.b), pack.TakeBlock, api.ErrRange, 0)
		checkTake(t, slices.Concat([]byte{2, 137, 0}, c.b), pack.TakeBlock, api.ErrForm, 0)
	}
}

// P34.2: a reader that is none, and one that has failed; one that stands behind other bytes goes on from there.
func TestReaders(t *testing.T) {
	all := func(r *octet.Reader, want api.Errno) {
		t.Helper()
		n, nodeErr := pack.TakeNode(r)
		b, blockErr := pack.TakeBlock(r)
		m, modelErr := pack.TakeModel(r)
		if !reflect.DeepEqual(n, api.Node{}) || !reflect.DeepEqual(b, api.Block{}) || !reflect.DeepEqual(m, api.Model{}) {
			t.Errorf("%+v, %+v and %+v were read", n, b, m)
		}
		if got, wants := [3]api.Errno{nodeErr, blockErr, modelErr}, [3]api.Errno{want, want, want}; got != wants {
			t.Errorf("the errors are %d, want %d", got, wants)
		}
	}
	all(nil, api.ErrNil)
	all(octet.Read(nil), api.ErrShort)
	for _, c := range []struct {
		b    []byte
		want api.Errno
	}{{[]byte{5, 9, 0}, api.ErrRange}, {[]byte{128, 0, 9, 0}, api.ErrForm}, {[]byte{255}, api.ErrShort}} {
		r := octet.Read(c.b)
		r.Count(4)
		all(r, c.want)
		all(r, c.want)
	}
	r := octet.Read([]byte{99, 9, 3, 1, 9, 0, 0, 1, 0, 0, 7})
	r.Count(99)
	n, _ := pack.TakeNode(r)
	b, _ := pack.TakeBlock(r)
	m, err := pack.TakeModel(r)
	if n.Kind != api.Flat || n.A != 3 || len(b.Nodes) != 1 || len(m.Blocks) != 1 || err != api.OK || r.Left() != 1 {
		t.Errorf("%+v, %+v and %+v were read, %d, with %d left", n, b, m, err, r.Left())
	}
	var unmade octet.Reader
	pack.TakeNode(&unmade)
	pack.TakeBlock(&unmade)
	pack.TakeModel(&unmade)
}

// Rule 2: what is passed stays as it is, up to its capacity, and results share nothing.
func TestNothingChangesOrIsShared(t *testing.T) {
	lot.Bundles(func(u api.Bundle) {
		w := lot.Copy(u)
		for i, m := range w.Models {
			for j, b := range m.Blocks {
				h := &m.Blocks[j].Head
				m.Blocks[j].Nodes, h.W, h.Bias = lot.Wide(b.Nodes), sample.Wide(h.W), append(slices.Clone(h.Bias), 77)[:len(h.Bias)]
			}
			wide := append(slices.Clone(m.Blocks), api.Block{Exit: true, Nodes: []api.Node{{Kind: 77}}})
			got, err := pack.Model(api.Model{Blocks: wide[:len(m.Blocks)]})
			want := spellModel(u.Models[i])
			if !slices.Equal(got, want) || err != api.OK || !wide[len(m.Blocks)].Exit || len(wide[len(m.Blocks)].Nodes) != 1 {
				t.Fatalf("%+v has the bytes %d, %d, want %d", m, got, err, want)
			}
			for j, b := range m.Blocks {
				right := u.Models[i].Blocks[j]
				kept := lot.Kept(b.Nodes, right.Nodes) && same(api.Block{Nodes: b.Nodes, Exit: b.Exit, Head: b.Head}, right) &&
					slices.Equal(b.Head.W[:len(b.Head.W)+3], append(slices.Clone(right.Head.W), 101, 102, 103)) && slices.Equal(b.Head.Bias[:len(b.Head.Bias)+1], append(slices.Clone(right.Head.Bias), 77))
				if !kept {
					t.Fatalf("%+v changed to %+v", right, b)
				}
			}
			first, _ := pack.TakeModel(octet.Read(got))
			r := octet.Read(got)
			second, _ := pack.TakeModel(r)
			clear(got[:cap(got)])
			for _, b := range first.Blocks {
				lot.Forget(b.Nodes)
				clear(b.Head.W)
				clear(b.Head.Bias)
			}
			clear(first.Blocks)
			if again, err := pack.Model(second); !slices.Equal(again, want) || err != api.OK {
				t.Fatalf("%+v shares what else was read, or its bytes", second)
			}
		}
	})
}

// Rule 2: within one answer too.
func TestListsAreApart(t *testing.T) {
	m := api.Model{Blocks: slices.Repeat([]api.Block{{Nodes: []api.Node{full(api.Conv), full(api.Dense)}, Exit: true, Head: api.Head{W: []int8{1, 2, 3}, Bias: []int32{4, 5}}}}, 2)}
	r, _ := pack.TakeModel(octet.Read(spellModel(m)))
	var small [][]int8
	var wide [][]int32
	for _, b := range r.Blocks {
		small, wide = append(small, b.Head.W), append(wide, b.Head.Bias)
		for _, n := range b.Nodes {
			small, wide = append(small, n.W), append(wide, n.Bias)
		}
	}
	for i := range small {
		for j := range small {
			clear(small[j][:cap(small[j])])
			clear(wide[j][:cap(wide[j])])
		}
		for v := range small[i][:cap(small[i])] {
			small[i][:cap(small[i])][v] = 9
		}
		for v := range wide[i][:cap(wide[i])] {
			wide[i][:cap(wide[i])][v] = 9
		}
		for j := range small {
			if j != i && (slices.Contains(small[j][:cap(small[j])], 9) || slices.Contains(wide[j][:cap(wide[j])], 9)) {
				t.Fatalf("lists %d and %d share memory", i, j)
			}
		}
	}
	grown := append(r.Blocks[0].Nodes, api.Node{Kind: 77})
	if grown[0].Kind != api.Conv || r.Blocks[1].Nodes[0].Kind != api.Conv {
		t.Fatalf("%+v shares its nodes with another block", r.Blocks[0])
	}
}

// P1, rule 6: nodes, blocks and models whose fields are all far away.
func TestFar(t *testing.T) {
	for _, far := range sample.Far() {
		for kind := -1; kind <= 10; kind++ {
			q := api.Quant{Mult: int32(far), Shift: far, Zero: int8(far)}
			n := api.Node{Kind: kind, A: far, B: far, K: far, S: far, P: far, Out: far, ZA: int8(far), ZB: int8(far), Q: q, R: q, Lo: int8(far), Hi: int8(far)}
			checkPut(t, n, pack.Node, kinds.Check(n))
			checkPut(t, api.Block{Nodes: []api.Node{n}, Head: api.Head{Need: int32(far)}}, pack.Block, kinds.Check(n))
			n.Kind = far
			checkPut(t, n, pack.Node, api.ErrKind)
			checkPut(t, api.Model{Blocks: []api.Block{{Nodes: []api.Node{flat, n}}}}, pack.Model, api.ErrKind)
		}
	}
}
