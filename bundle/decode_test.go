package bundle_test

import (
	"bytes"
	"encoding/binary"
	"hash/crc32"
	"slices"
	"testing"

	"stepwell/api"
	"stepwell/bundle"
	"stepwell/leb"
	"stepwell/lot"
	"stepwell/octet"
	"stepwell/pack"
	"stepwell/sample"
	"stepwell/valid"
)

// decodeByWords is what P35.2's words tell of some bytes, one after another.
func decodeByWords(b []byte) (api.Bundle, api.Errno) {
	switch {
	case len(b) > 1<<20:
		return api.Bundle{}, api.ErrLong
	case len(b) < 8:
		return api.Bundle{}, api.ErrShort
	case !bytes.HasPrefix(b, []byte("STW1")):
		return api.Bundle{}, api.ErrMagic
	case binary.LittleEndian.Uint32(b[len(b)-4:]) != crc32.ChecksumIEEE(b[:len(b)-4]):
		return api.Bundle{}, api.ErrSum
	}
	u, rest, err := takeByWords(b[4 : len(b)-4])
	switch why := valid.Bundle(u).Why; {
	case err != api.OK:
		return api.Bundle{}, err
	case len(rest) > 0:
		return api.Bundle{}, api.ErrTrailing
	case why != api.OK:
		return api.Bundle{}, why
	}
	return u, api.OK
}

// takeByWords is the bundle that some bytes begin with, and what follows.
func takeByWords(rest []byte) (api.Bundle, []byte, api.Errno) {
	var u api.Bundle
	models := 0
	for _, f := range []struct {
		to   *int
		most uint64
	}{{&u.Input.H, 16}, {&u.Input.W, 16}, {&u.Input.C, 1024}, {&u.Classes, 16}, {&models, 3}} {
		v, size, err := leb.Get(rest)
		switch {
		case err != api.OK:
			return u, nil, err
		case v > f.most:
			return u, nil, api.ErrRange
		}
		*f.to, rest = int(v), rest[size:]
	}
	for range models {
		r := octet.Read(rest)
		m, err := pack.TakeModel(r)
		if err != api.OK {
			return u, nil, err
		}
		u.Models, rest = append(u.Models, m), rest[len(rest)-r.Left():]
	}
	return u, rest, api.OK
}

// compare decodes some bytes by the words too. What is decoded has these bytes, and no others.
func compare(t *testing.T, b []byte) api.Errno {
	t.Helper()
	want, err := decodeByWords(b)
	if err != api.OK {
		checkDecode(t, b, err)
		return err
	}
	check(t, want, b)
	return api.OK
}

// example is a bundle of all that there may be in one, and its bytes between Magic and the checksum.
func example(t *testing.T) (api.Bundle, []byte) {
	t.Helper()
	act := api.Node{Kind: api.Act, A: 1, Q: api.Quant{Mult: 300, Shift: 8, Zero: -1}, ZA: -2, Lo: -3, Hi: 9}
	sum := api.Node{Kind: api.Dense, A: 2, Out: 2, W: []int8{-1, 2, 3, 4}, Bias: []int32{-99, 9999}, Q: api.Quant{Mult: 7, Shift: 2}, Hi: 99}
	u := models([]api.Block{exit(9, flat)}, []api.Block{{Nodes: []api.Node{flat, act}}, exit(0, flat, act, sum)}, []api.Block{exit(300, flat, flat)})
	b, ok := inside(u)
	if !ok || !valid.Right(u) {
		t.Fatalf("%+v is invalid: %+v", u, valid.Bundle(u))
	}
	return u, b
}

// P35.2: what is told before the first number, in its order.
func TestDecodeFrame(t *testing.T) {
	_, in := example(t)
	right := framed(in)
	for size := range 8 {
		checkDecode(t, right[:size], api.ErrShort)
		checkDecode(t, make([]byte, size), api.ErrShort)
	}
	checkDecode(t, nil, api.ErrShort)
	checkDecode(t, sealed([]byte("STW")), api.ErrShort)
	for _, magic := range []string{"\x00\x00\x00\x00", "STW0", "STW2", "stw1", "1WTS", "STW\x00", "TTW1", "SUW1", "STX1", " STW1", "\xefSTW1"} {
		checkDecode(t, sealed([]byte(magic)), api.ErrMagic)
		checkDecode(t, append([]byte(magic), 0, 0, 0, 0), api.ErrMagic)
		checkDecode(t, sealed([]byte(magic), in), api.ErrMagic)
		checkDecode(t, append([]byte(magic), right[4:]...), api.ErrMagic)
	}
	checkDecode(t, []byte("STW1\x00\x00\x00\x00"), api.ErrSum)
	checkDecode(t, []byte("STW1STW1"), api.ErrSum)
	checkDecode(t, append([]byte("STW1\x11"), right[5:]...), api.ErrSum)
	for size := 8; size < len(right); size++ {
		checkDecode(t, right[:size], api.ErrSum)
	}
	for _, tail := range [][]byte{{0}, {1}, {255, 255}, right, right[len(right)-4:]} {
		checkDecode(t, append(slices.Clone(right), tail...), api.ErrSum)
	}
	// The sum's bytes in another order, the sum of less, or of more.
	turned := slices.Clone(right)
	slices.Reverse(turned[len(turned)-4:])
	checkDecode(t, turned, api.ErrSum)
	checkDecode(t, slices.Concat([]byte("STW1"), in, sealed(in)[len(in):]), api.ErrSum)
	checkDecode(t, slices.Concat([]byte("STW1"), in, sealed(right)[len(right):]), api.ErrSum)
	checkDecode(t, sealed([]byte("STW1")), api.ErrShort)
}

// P35.2: bytes of the greatest number that there may be, and of more.
func TestDecodeSize(t *testing.T) {
	_, in := example(t)
	for _, size := range []int{api.MaxBundle - 1, api.MaxBundle} {
		b := make([]byte, size)
		checkDecode(t, b, api.ErrMagic)
		copy(b, framed(in))
		checkDecode(t, b, api.ErrSum)
		checkDecode(t, sealed(b[:size-4]), api.ErrTrailing)
	}
	for _, size := range []int{api.MaxBundle + 1, api.MaxBundle + 4, 2 * api.MaxBundle, 1 << 24} {
		b := make([]byte, size)
		checkDecode(t, b, api.ErrLong)
		copy(b, framed(in))
		checkDecode(t, b, api.ErrLong)
		checkDecode(t, sealed(b[:size-4]), api.ErrLong)
	}
}

// P35.2: each number by its limit, what its bytes may be, and where they end.
func TestDecodeNumbers(t *testing.T) {
	right, in := example(t)
	rest := in[5:]
	check(t, right, framed([]byte{1, 2, 1, 2, 3}, rest))
	for at, most := range []int{16, 16, 1024, 16, 3} {
		before := in[:at]
		checkDecode(t, framed(before), api.ErrShort)
		for _, v := range []int{most + 1, most + 2, 127, 128, 256 + int(in[at]), 1025, 1<<32 + int(in[at]), 1<<63 - 1} {
			if v > most {
				checkDecode(t, framed(before, number(v)), api.ErrRange)
				checkDecode(t, framed(before, number(v), in[at+1:]), api.ErrRange)
				checkDecode(t, framed(before, number(v), []byte{128, 0}), api.ErrRange)
			}
		}
		checkDecode(t, framed(before, []byte{in[at] + 128, 0}, in[at+1:]), api.ErrForm)
		checkDecode(t, framed(before, []byte{in[at] + 128}), api.ErrShort)
		checkDecode(t, framed(before, bytes.Repeat([]byte{255}, 9), []byte{1}, in[at+1:]), api.ErrRange)
		checkDecode(t, framed(before, bytes.Repeat([]byte{255}, 9), []byte{2}, in[at+1:]), api.ErrForm)
		checkDecode(t, framed(before, bytes.Repeat([]byte{255}, 9)), api.ErrShort)
		// The limit itself is taken: what is missing is what follows.
		checkDecode(t, framed(before, number(most)), api.ErrShort)
		checkDecode(t, framed(before, number(0), make([]byte, 4-at), []byte{7}), api.ErrTrailing)
	}
	for size := range in {
		checkDecode(t, framed(in[:size]), api.ErrShort)
	}
}

// P35.2: what is left is told before what is invalid, and that after what is wrong with a later model.
func TestDecodeOrder(t *testing.T) {
	head, one, bad := []byte{1, 2, 1, 2}, []byte{1, 1, 9, 0, 1, 4, 1, 2, 3, 4, 2, 0, 0, 9}, []byte{1, 1, 0, 0}
	for _, c := range []struct {
		in   []byte
		want api.Errno
	}{
		{slices.Concat(head, []byte{1}, one), api.OK},
		{slices.Concat(head, []byte{1}, one, []byte{0}), api.ErrTrailing}, {slices.Concat(head, []byte{1}, one, one), api.ErrTrailing}, {slices.Concat(head, []byte{2}, one, one, []byte{255}), api.ErrTrailing},
		{slices.Concat(head, []byte{3}, one, one), api.ErrShort}, {slices.Concat(head, []byte{3}, one, one, one), api.OK}, {slices.Concat(head, []byte{3}, one, one, one, one), api.ErrTrailing},
		{slices.Concat(head, []byte{0}), api.ErrEmpty}, {slices.Concat(head, []byte{0}, one), api.ErrTrailing}, {slices.Concat(head, []byte{1, 0}), api.ErrEmpty}, {slices.Concat(head, []byte{1, 0, 0}), api.ErrTrailing},
		{slices.Concat(head, []byte{1, 1, 0, 0}), api.ErrEmpty}, {slices.Concat(head, []byte{1, 1, 1, 9, 0, 0}), api.ErrExit}, {slices.Concat(head, []byte{2, 1, 1, 9, 0, 0}, one), api.ErrExit}, {slices.Concat(head, []byte{2, 1, 1, 9, 0, 0}, bad), api.ErrKind},
		{slices.Concat(head, []byte{1}, bad), api.ErrKind}, {slices.Concat(head, []byte{2}, one, bad, []byte{0}), api.ErrKind}, {slices.Concat(head, []byte{2}, bad, []byte{7}), api.ErrKind}, {slices.Concat(head, []byte{2}, one, []byte{7}), api.ErrRange},
		{slices.Concat([]byte{0, 2, 1, 2, 1}, one), api.ErrShape}, {slices.Concat([]byte{0, 2, 1, 2, 1}, bad), api.ErrKind}, {slices.Concat([]byte{0, 2, 1, 2, 1}, one, one), api.ErrTrailing}, {slices.Concat([]byte{0, 0, 0, 0, 0}), api.ErrShape},
		{slices.Concat([]byte{16, 16, 5, 2, 1}, one), api.ErrShape}, {slices.Concat([]byte{1, 2, 0, 2, 1}, one), api.ErrShape}, {slices.Concat([]byte{1, 2, 1, 1, 1}, one), api.ErrArg}, {slices.Concat([]byte{1, 2, 1, 0, 1}, one), api.ErrArg},
		{slices.Concat([]byte{1, 2, 1, 3, 1}, one), api.ErrWeights}, {slices.Concat([]byte{1, 3, 1, 2, 1}, one), api.ErrWeights}, {slices.Concat([]byte{2, 1, 1, 2, 1}, one), api.OK}, {slices.Concat([]byte{1, 1, 2, 2, 1}, one), api.OK},
		{[]byte{1, 2, 1, 2, 1, 1, 1, 9, 1, 1, 4, 1, 2, 3, 4, 2, 0, 0, 9}, api.ErrValue}, {[]byte{1, 2, 1, 2, 1, 1, 1, 9, 0, 1, 4, 1, 2, 3, 4, 2, 0, 254, 255, 255, 255, 15, 9}, api.ErrOver},
	} {
		if got := compare(t, framed(c.in)); got != c.want {
			t.Errorf("of %d, %d is told, want %d", c.in, got, c.want)
		}
	}
}

// P35.2: invalid bundles that have bytes all the same: what valid.Bundle tells of them.
func TestDecodeInvalid(t *testing.T) {
	next := lot.From(31)
	told := map[api.Errno]int{}
	lot.WrongBundles(func(u api.Bundle, f lot.Fault) {
		// There are many: one of four is enough.
		if next(0, 3) > 0 {
			return
		}
		in, ok := inside(u)
		most := max(u.Input.H, u.Input.W, u.Classes)
		if !ok || most > 16 || min(u.Input.H, u.Input.W, u.Input.C, u.Classes) < 0 || u.Input.C > 1024 || len(u.Models) > 3 {
			return
		}
		told[f.Why]++
		checkDecode(t, framed(in), f.Why)
		if told[f.Why]%10 == 1 {
			checkDecode(t, framed(in, []byte{9}), api.ErrTrailing)
		}
	})
	for _, err := range []api.Errno{api.ErrShape, api.ErrArg, api.ErrEmpty, api.ErrValue, api.ErrWeights, api.ErrOver, api.ErrExit} {
		if told[err] == 0 {
			t.Errorf("only %v was told", told)
		}
	}
}

// P35.5: no bundle is decoded as soon as one byte is another one.
func TestDecodeChanged(t *testing.T) {
	change := func(b []byte, at int, by byte) {
		want := api.ErrSum
		if at < 4 {
			want = api.ErrMagic
		}
		b[at] ^= by
		checkDecode(t, b, want)
		b[at] ^= by
	}
	_, in := example(t)
	b := framed(in)
	for at := range b {
		for by := 1; by <= 255; by++ {
			change(b, at, byte(by))
		}
	}
	next := lot.From(3)
	lot.Bundles(func(u api.Bundle) {
		b := spell(t, u)
		for range 40 {
			change(b, next(0, len(b)-1), byte(next(1, 255)))
		}
	})
}

// P35.2, P35.4: any bytes with their checksum, many of which are a bundle's but for a few, or end too early.
func TestDecodeAnything(t *testing.T) {
	next := lot.From(19)
	told := map[api.Errno]int{}
	for range 20000 {
		b := make([]byte, next(0, 30))
		for i := range b {
			b[i] = byte(next(0, []int{3, 12, 255}[next(0, 2)]))
		}
		told[compare(t, b)]++
		told[compare(t, framed(b))]++
		told[compare(t, framed([]byte{1, 2, 1, 2, 1, 1}, b))]++
	}
	_, in := example(t)
	for range 20000 {
		told[compare(t, framed(spoiled(next, in)))]++
	}
	lot.Bundles(func(u api.Bundle) {
		b, _ := inside(u)
		for range 20 {
			told[compare(t, framed(spoiled(next, b)))]++
		}
	})
	for _, err := range []api.Errno{
		api.OK, api.ErrArg, api.ErrRange, api.ErrShape, api.ErrKind, api.ErrQuant, api.ErrValue, api.ErrWeights, api.ErrExit, api.ErrEmpty, api.ErrShort, api.ErrForm, api.ErrTrailing,
	} {
		if told[err] == 0 {
			t.Errorf("only %v was told", told)
		}
	}
}

// spoiled is bytes of which a few are others, are added, or lack.
func spoiled(next lot.Draw, b []byte) []byte {
	s := slices.Clone(b)
	for range next(1, 2) {
		at := next(0, len(s)-1)
		switch next(0, 5) {
		case 0:
			s[at] = byte(next(0, 255))
		case 1:
			s[at]++
		case 2:
			s[at]--
		case 3:
			s = slices.Insert(s, at, byte(next(0, 255)))
		case 4:
			s = append(s, byte(next(0, 3)))
		case 5:
			s = s[:max(at, 1)]
		}
	}
	return s
}

// Rule 2: what is passed stays as it is, up to its capacity, and results share nothing.
func TestNothingChangesOrIsShared(t *testing.T) {
	lot.Bundles(func(u api.Bundle) {
		w := lot.Copy(u)
		for i, m := range w.Models {
			for j, b := range m.Blocks {
				h := &m.Blocks[j].Head
				m.Blocks[j].Nodes, h.W, h.Bias = lot.Wide(b.Nodes), sample.Wide(h.W), append(slices.Clone(h.Bias), 77)[:len(h.Bias)]
			}
			w.Models[i].Blocks = append(slices.Clone(m.Blocks), api.Block{Exit: true, Nodes: []api.Node{{Kind: 77}}})[:len(m.Blocks)]
		}
		w.Models = append(slices.Clone(w.Models), api.Model{Blocks: []api.Block{{Exit: true}}})[:len(w.Models)]
		before := apart(whole(w))
		got, _ := bundle.Encode(w)
		again, _ := bundle.Encode(w)
		bundle.Same(w, u)
		forget(bundle.Copy(w))
		if !equal(whole(w), before) {
			t.Fatalf("%+v became %+v", before, whole(w))
		}
		wide := append(slices.Clone(got), 1, 2, 3)
		first, _ := bundle.Decode(wide[:len(got)])
		second, err := bundle.Decode(wide[:len(got)])
		if !bytes.Equal(wide, slices.Concat(got, []byte{1, 2, 3})) || err != api.OK {
			t.Fatalf("%d became %d", got, wide)
		}
		clear(wide)
		clear(got[:cap(got)])
		if !equal(first, u) || !equal(second, u) || !bytes.Equal(again, spell(t, u)) {
			t.Fatalf("%+v was decoded, want %+v", first, u)
		}
		checkApart(t, first, places(second)...)
		checkApart(t, second)
	})
}

// whole is a bundle of which all lists reach up to their capacity.
func whole(u api.Bundle) api.Bundle {
	u.Models = slices.Clone(u.Models[:cap(u.Models)])
	for i, m := range u.Models {
		blocks := slices.Clone(m.Blocks[:cap(m.Blocks)])
		for j, b := range blocks {
			h, nodes := &blocks[j].Head, slices.Clone(b.Nodes[:cap(b.Nodes)])
			h.W, h.Bias, blocks[j].Nodes = h.W[:cap(h.W)], h.Bias[:cap(h.Bias)], nodes
			for k, n := range nodes {
				nodes[k].W, nodes[k].Bias = n.W[:cap(n.W)], n.Bias[:cap(n.Bias)]
			}
		}
		u.Models[i].Blocks = blocks
	}
	return u
}
