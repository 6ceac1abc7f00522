package bundle_test

import (
	"bytes"
	"encoding/binary"
	"hash/crc32"
	"math"
	"slices"
	"testing"

	"stepwell/api"
	"stepwell/bundle"
	"stepwell/lot"
	"stepwell/pack"
	"stepwell/sample"
	"stepwell/valid"
)

var (
	flat = api.Node{Kind: api.Flat}
	two  = api.Shape{H: 1, W: 2, C: 1}
)

// exit is a block of some nodes, with an exit of two classes for two numbers.
func exit(need int32, l ...api.Node) api.Block {
	return api.Block{Nodes: l, Exit: true, Head: api.Head{W: []int8{1, 2, 3, 4}, Bias: []int32{0, 0}, Need: need}}
}

// models is a bundle of models of some blocks, for two numbers and two classes.
func models(l ...[]api.Block) api.Bundle {
	u := api.Bundle{Input: two, Classes: 2}
	for _, blocks := range l {
		u.Models = append(u.Models, api.Model{Blocks: blocks})
	}
	return u
}

// sealed is bytes with their checksum, by another package's calculation.
func sealed(parts ...[]byte) []byte {
	b := slices.Concat(parts...)
	return binary.LittleEndian.AppendUint32(b, crc32.ChecksumIEEE(b))
}

// framed is what stands behind Magic, with Magic and the checksum.
func framed(parts ...[]byte) []byte {
	return sealed([]byte("STW1"), slices.Concat(parts...))
}

// number is a number that is not negative as a varint.
func number(n int) []byte {
	return binary.AppendUvarint(nil, uint64(n))
}

// inside is a bundle's bytes between Magic and the checksum, if its models have any.
func inside(u api.Bundle) ([]byte, bool) {
	var b []byte
	for _, n := range []int{u.Input.H, u.Input.W, u.Input.C, u.Classes, len(u.Models)} {
		b = append(b, number(n)...)
	}
	for _, m := range u.Models {
		part, err := pack.Model(m)
		if err != api.OK {
			return nil, false
		}
		b = append(b, part...)
	}
	return b, true
}

// spell is a bundle's bytes, by the words of the chapter.
func spell(t *testing.T, u api.Bundle) []byte {
	t.Helper()
	b, ok := inside(u)
	if !ok {
		t.Fatalf("the models of %+v have no bytes", u)
	}
	return framed(b)
}

// check tells whether a bundle has these bytes, and whether these are decoded, and encoded again.
func check(t *testing.T, u api.Bundle, want []byte) {
	t.Helper()
	got, err := bundle.Encode(u)
	if !bytes.Equal(got, want) || err != api.OK {
		t.Fatalf("%+v has the bytes %d, %d, want %d", u, got, err, want)
	}
	back, err := bundle.Decode(want)
	if !equal(back, u) || !bundle.Same(back, u) || err != api.OK {
		t.Fatalf("of %d, %+v is decoded, %d, want %+v", want, back, err, u)
	}
	if again, err := bundle.Encode(back); !bytes.Equal(again, want) || err != api.OK {
		t.Fatalf("%+v was decoded, and has the bytes %d, %d, want %d", back, again, err, want)
	}
}

// checkEncode tells whether a bundle has no bytes, for this error.
func checkEncode(t *testing.T, u api.Bundle, want api.Errno) {
	t.Helper()
	if got, err := bundle.Encode(u); len(got) != 0 || err != want {
		t.Fatalf("%+v has %d bytes, %d, want %d", u, len(got), err, want)
	}
}

// checkDecode tells whether no bundle is decoded, for this error.
func checkDecode(t *testing.T, b []byte, want api.Errno) {
	t.Helper()
	got, err := bundle.Decode(b)
	if err != want || got.Input != (api.Shape{}) || got.Classes != 0 || len(got.Models) != 0 {
		t.Fatalf("of %d bytes, %d .., %+v is decoded, %d, want %d", len(b), b[:min(len(b), 40)], got, err, want)
	}
}

// P35.1, P35.2: bytes written out.
func TestByHand(t *testing.T) {
	one := exit(9, flat)
	oneBytes := []byte{1, 9, 0, 1, 4, 1, 2, 3, 4, 2, 0, 0, 9}
	check(t, models([]api.Block{one}), []byte{'S', 'T', 'W', '1', 1, 2, 1, 2, 1, 1, 1, 9, 0, 1, 4, 1, 2, 3, 4, 2, 0, 0, 9, 27, 50, 123, 137})

	bare := api.Block{Nodes: []api.Node{flat, {Kind: api.Act, A: 1, Q: api.Quant{Mult: 300, Shift: 8, Zero: -1}, ZA: -2, Lo: -3, Hi: 9}}}
	bareBytes := []byte{2, 9, 0, 7, 1, 254, 172, 2, 8, 255, 253, 9, 0}
	last := exit(0, api.Node{Kind: api.Join, Q: api.Quant{Mult: 1}, R: api.Quant{Mult: 1}})
	last.Head.W, last.Head.Bias = []int8{-1, -128, 127, 0}, []int32{-64, 64}
	lastBytes := []byte{1, 6, 0, 0, 0, 0, 1, 0, 0, 1, 0, 0, 0, 1, 4, 255, 128, 127, 0, 2, 127, 128, 1, 0}
	u := models([]api.Block{one}, []api.Block{bare, last}, []api.Block{one, bare, one})
	check(t, u, framed([]byte{1, 2, 1, 2, 3}, []byte{1}, oneBytes, []byte{2}, bareBytes, lastBytes, []byte{3}, oneBytes, bareBytes, oneBytes))

	// A shape of which C has two bytes, and as many classes as there may be.
	w := sample.Numbers(api.MaxWeights)
	u = api.Bundle{Input: api.Shape{H: 1, W: 1, C: 1024}, Classes: 16, Models: []api.Model{{Blocks: []api.Block{{Nodes: []api.Node{flat}, Exit: true, Head: api.Head{W: w, Bias: make([]int32, 16)}}}}}}
	want := []byte{1, 1, 128, 8, 16, 1, 1, 1, 9, 0, 1, 128, 128, 1}
	for _, v := range w {
		want = append(want, byte(v))
	}
	check(t, u, framed(want, []byte{16}, make([]byte, 16), []byte{0}))
	u.Input = api.Shape{H: 16, W: 16, C: 4}
	check(t, u, framed(slices.Concat([]byte{16, 16, 4, 16}, want[5:]), []byte{16}, make([]byte, 16), []byte{0}))
	if bundle.Magic != "STW1" {
		t.Errorf("Magic is %q", bundle.Magic)
	}
}

// P35.1, P35.2, P35.4: bundles of all sizes.
func TestDrawn(t *testing.T) {
	lot.Bundles(func(u api.Bundle) { check(t, u, spell(t, u)) })
}

// P35.1: bytes and their checksum.
func TestSeal(t *testing.T) {
	for _, c := range []struct{ b, want []byte }{
		{nil, []byte{0, 0, 0, 0}}, {[]byte{}, []byte{0, 0, 0, 0}}, {[]byte{0}, []byte{0, 141, 239, 2, 210}},
		{[]byte("123456789"), []byte{'1', '2', '3', '4', '5', '6', '7', '8', '9', 0x26, 0x39, 0xF4, 0xCB}},
	} {
		if got := bundle.Seal(c.b); !bytes.Equal(got, c.want) {
			t.Errorf("Seal(%d) = %d, want %d", c.b, got, c.want)
		}
	}
	next := lot.From(5)
	for size := range 300 {
		wide := make([]byte, size+9)
		for i := range wide {
			wide[i] = byte(next(0, 255))
		}
		before := slices.Clone(wide)
		got := bundle.Seal(wide[:size])
		if want := sealed(before[:size]); !bytes.Equal(got, want) || !bytes.Equal(wide, before) {
			t.Fatalf("Seal(%d) = %d, want %d; and left %d", before[:size], got, want, wide)
		}
		clear(got[:cap(got)])
		if !bytes.Equal(wide, before) {
			t.Fatalf("what Seal returned for %d bytes shares them", size)
		}
	}
}

// P35.1: what valid.Bundle tells, whatever else is wrong.
func TestEncodeWrong(t *testing.T) {
	checkEncode(t, api.Bundle{}, api.ErrShape)
	checkEncode(t, models(), api.ErrEmpty)
	checkEncode(t, models(nil), api.ErrEmpty)
	checkEncode(t, models([]api.Block{exit(-1, flat)}), api.ErrExit)
	told := map[api.Errno]int{}
	lot.WrongBundles(func(u api.Bundle, f lot.Fault) {
		told[f.Why]++
		checkEncode(t, u, f.Why)
	})
	for _, err := range []api.Errno{
		api.ErrArg, api.ErrFull, api.ErrShape, api.ErrKind, api.ErrQuant, api.ErrValue, api.ErrWeights, api.ErrOver, api.ErrExit, api.ErrEmpty,
	} {
		if told[err] == 0 {
			t.Errorf("only %v was told", told)
		}
	}
}

// heavy is a valid bundle of a number of bytes that is above 2^16 and at most a little above MaxBundle.
func heavy(t *testing.T, size int) api.Bundle {
	t.Helper()
	const classes, elems, room = 16, 1024, 7
	h := api.Head{W: sample.Numbers(classes * elems), Bias: make([]int32, classes)}
	u := api.Bundle{Input: api.Shape{H: 1, W: 1, C: elems}, Classes: classes}
	for range api.MaxModels {
		l := make([]api.Block, 3)
		for i := range l {
			l[i] = api.Block{Nodes: []api.Node{flat}, Exit: i == 2}
		}
		l[2].Head = h
		u.Models = append(u.Models, api.Model{Blocks: l})
	}
	// Each node has a byte or more for each weight and each bias, and at most 30 others.
	for i := range api.MaxModels * 3 * room {
		out := min((size-len(spell(t, u))-30)/(elems+1), api.MaxWeights/elems)
		if out < 1 {
			break
		}
		n := api.Node{Kind: api.Dense, Out: out, W: sample.Numbers(out * elems), Bias: make([]int32, out), Q: api.Quant{Mult: 1}, Hi: 9}
		b := &u.Models[i/room/3].Blocks[i/room%3]
		b.Nodes = slices.Insert(b.Nodes, 0, n)
	}
	lengthen(u, size-len(spell(t, u)))
	if got := len(spell(t, u)); got != size || !valid.Right(u) {
		t.Fatalf("the bundle has %d bytes, want %d, and %+v", got, size, valid.Bundle(u))
	}
	return u
}

// lengthen makes biases of one byte longer, by some bytes in all.
func lengthen(u api.Bundle, bytes int) {
	// Of as many bytes more as the position tells; no sum leaves 32 bits.
	longer := []int32{0, 64, 1 << 13, 1 << 20, 1 << 27}
	for _, m := range u.Models {
		for _, b := range m.Blocks {
			for _, n := range b.Nodes {
				for i := range n.Bias {
					more := min(bytes, len(longer)-1)
					n.Bias[i] = longer[more]
					bytes -= more
				}
			}
		}
	}
}

// P35.1, P35.2: as many bytes as there may be, and more.
func TestLong(t *testing.T) {
	for _, size := range []int{api.MaxBundle - 1, api.MaxBundle} {
		u := heavy(t, size)
		check(t, u, spell(t, u))
	}
	for _, more := range []int{1, 4, 5} {
		u := heavy(t, api.MaxBundle+more)
		checkEncode(t, u, api.ErrLong)
		checkDecode(t, spell(t, u), api.ErrLong)
		u.Classes = 17
		checkEncode(t, u, api.ErrArg)
	}
	// As many blocks as there may be.
	u := heavy(t, api.MaxBundle)
	for i, m := range u.Models {
		u.Models[i].Blocks = append(slices.Repeat(m.Blocks[:1], api.MaxBlocks-1), m.Blocks[2])
	}
	if b := spell(t, u); len(b) < 2*api.MaxBundle-1<<17 || !valid.Right(u) {
		t.Fatalf("the bundle has %d bytes, and %+v", len(b), valid.Bundle(u))
	}
	checkEncode(t, u, api.ErrLong)
	checkDecode(t, spell(t, u), api.ErrLong)
}

// P1, rule 6: bundles whose fields are all far away.
func TestFar(t *testing.T) {
	for _, far := range sample.Far() {
		q := api.Quant{Mult: int32(far), Shift: far, Zero: int8(far)}
		for kind := -1; kind <= 10; kind++ {
			n := api.Node{Kind: kind, A: far, B: far, K: far, S: far, P: far, Out: far, Q: q, R: q, Lo: int8(far), Hi: int8(far)}
			u := models([]api.Block{exit(int32(far), n)})
			checkEncode(t, u, valid.Bundle(u).Why)
			u.Input = api.Shape{H: far, W: far, C: far}
			checkEncode(t, u, api.ErrShape)
			u.Input, u.Classes = two, far
			checkEncode(t, u, api.ErrArg)
			if !bundle.Same(u, u) || !equal(bundle.Copy(u), u) {
				t.Fatalf("%+v is not the same, or not copied", u)
			}
		}
	}
	most := exit(math.MaxInt32, flat)
	u := models([]api.Block{most})
	check(t, u, spell(t, u))
}
