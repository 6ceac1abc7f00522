package octet_test

import (
	"bytes"
	"math"
	"slices"
	"testing"

	"stepwell/api"
	"stepwell/leb"
	"stepwell/octet"
)

const (
	minInt = math.MinInt64
	maxInt = math.MaxInt64
	min32  = math.MinInt32
	max32  = math.MaxInt32
)

// all8 is all numbers of 8 bits.
func all8() []int8 {
	l := make([]int8, 0, 256)
	for v := -128; v <= 127; v++ {
		l = append(l, int8(v))
	}
	return l
}

// edges32 are the numbers at and beside all powers of two, with both signs.
func edges32() []int32 {
	l := []int32{0, min32, min32 + 1, max32 - 1, max32}
	for bit := range 31 {
		n := int32(1) << bit
		l = append(l, n-1, n, n+1, -n-1, -n, -n+1)
	}
	return l
}

// tails are bytes that may follow what is read.
func tails() [][]byte {
	return [][]byte{nil, {0}, {1}, {127}, {128}, {255, 255}, bytes.Repeat([]byte{128}, 12)}
}

// with is some bytes with others behind their end, within the capacity.
func with(b []byte, beyond ...byte) []byte {
	return slices.Concat(b, beyond)[:len(b)]
}

// P8.1
func TestPut32(t *testing.T) {
	for _, c := range []struct {
		n    uint32
		want []byte
	}{
		{0, []byte{0, 0, 0, 0}}, {1, []byte{1, 0, 0, 0}}, {255, []byte{255, 0, 0, 0}}, {256, []byte{0, 1, 0, 0}}, {513, []byte{1, 2, 0, 0}}, {1 << 16, []byte{0, 0, 1, 0}}, {1 << 24, []byte{0, 0, 0, 1}},
		{1 << 31, []byte{0, 0, 0, 128}}, {0x04030201, []byte{1, 2, 3, 4}}, {0xCBF43926, []byte{0x26, 0x39, 0xF4, 0xCB}}, {math.MaxUint32, []byte{255, 255, 255, 255}},
	} {
		if got := octet.Put32(c.n); !bytes.Equal(got, c.want) {
			t.Errorf("Put32(%d) = %d, want %d", c.n, got, c.want)
		}
		if got, ok := octet.Get32(c.want); got != c.n || !ok {
			t.Errorf("Get32(%d) = %d, %t, want %d, true", c.want, got, ok, c.n)
		}
	}
}

// P8.1: bytes behind the first four do not count, and those behind the end are none.
func TestGet32(t *testing.T) {
	for _, c := range []struct {
		b    []byte
		want uint32
		ok   bool
	}{
		{nil, 0, false}, {[]byte{}, 0, false}, {[]byte{1}, 0, false}, {[]byte{1, 2}, 0, false}, {[]byte{1, 2, 3}, 0, false}, {with([]byte{1, 2, 3}, 4, 5), 0, false}, {with(nil, 1, 2, 3, 4), 0, false},
		{[]byte{1, 2, 3, 4}, 0x04030201, true}, {with([]byte{1, 2, 3, 4}, 9), 0x04030201, true}, {[]byte{1, 2, 3, 4, 5}, 0x04030201, true}, {[]byte{255, 254, 253, 252, 251, 250, 249, 248}, 0xFCFDFEFF, true},
		{[]byte{0, 0, 0, 0, 1}, 0, true}, {[]byte{128, 0, 0, 128}, 0x80000080, true},
	} {
		if got, ok := octet.Get32(c.b); got != c.want || ok != c.ok {
			t.Errorf("Get32(%d) = %d, %t, want %d, %t", c.b, got, ok, c.want, c.ok)
		}
	}
}

// P8.1
func TestSmall(t *testing.T) {
	for _, c := range []struct {
		l    []int8
		want []byte
	}{
		{nil, nil}, {[]int8{}, nil}, {[]int8{0}, []byte{0}}, {[]int8{1, -1}, []byte{1, 255}}, {[]int8{-128, 127, -127}, []byte{128, 127, 129}}, {[]int8{1, -1, 2, 3}[:2], []byte{1, 255}},
	} {
		if got := octet.Small(c.l); !bytes.Equal(got, c.want) {
			t.Errorf("Small(%d) = %d, want %d", c.l, got, c.want)
		}
	}
	for i, v := range octet.Small(all8()) {
		if want := byte((i + 128) % 256); v != want {
			t.Errorf("Small of %d = %d, want %d", i-128, v, want)
		}
	}
}

// P8.1
func TestWide(t *testing.T) {
	for _, c := range []struct {
		l    []int32
		want []byte
	}{
		{nil, nil}, {[]int32{}, nil}, {[]int32{0}, []byte{0}}, {[]int32{1, -1}, []byte{2, 1}}, {[]int32{1, -1, 7}[:2], []byte{2, 1}}, {[]int32{63, 64, -64, -65}, []byte{126, 128, 1, 127, 129, 1}},
		{[]int32{max32}, []byte{254, 255, 255, 255, 15}}, {[]int32{min32, 0}, []byte{255, 255, 255, 255, 15, 0}}, {[]int32{150, 300}, []byte{172, 2, 216, 4}},
	} {
		if got := octet.Wide(c.l); !bytes.Equal(got, c.want) {
			t.Errorf("Wide(%d) = %d, want %d", c.l, got, c.want)
		}
	}
	var want []byte
	for _, v := range edges32() {
		want = append(want, leb.PutInt(int64(v))...)
	}
	if got := octet.Wide(edges32()); !bytes.Equal(got, want) {
		t.Errorf("Wide of the edges = %d, want %d", got, want)
	}
}

// check tells what a reader has left, and how it ends.
func check(t *testing.T, r *octet.Reader, left int, end api.Errno) {
	t.Helper()
	if got := r.Left(); got != left {
		t.Errorf("Left() = %d, want %d", got, left)
	}
	for range 2 {
		if got := r.End(); got != end {
			t.Errorf("End() = %d, want %d", got, end)
		}
	}
}

// end is how a reader without an error ends.
func end(left int) api.Errno {
	if left > 0 {
		return api.ErrTrailing
	}
	return api.OK
}

// P8.2
func TestCount(t *testing.T) {
	for _, c := range []struct {
		b    []byte
		most int
		want int
		left int
	}{
		{[]byte{5}, 9, 5, 0}, {[]byte{5}, 5, 5, 0}, {[]byte{5, 6, 7}, 5, 5, 2}, {[]byte{0}, 0, 0, 0}, {[]byte{0, 0}, -1, 0, 1}, {[]byte{0}, minInt, 0, 0}, {[]byte{172, 2, 1}, 300, 300, 1}, {[]byte{172, 2}, maxInt, 300, 0},
		{[]byte{255, 255, 255, 255, 255, 255, 255, 255, 127}, maxInt, maxInt, 0}, {[]byte{254, 255, 255, 255, 255, 255, 255, 255, 127, 4}, maxInt - 1, maxInt - 1, 1},
	} {
		r := octet.Read(c.b)
		if got := r.Count(c.most); got != c.want {
			t.Errorf("Count(%d) of %d = %d, want %d", c.most, c.b, got, c.want)
		}
		check(t, r, c.left, end(c.left))
	}
}

// P8.2: leb's error comes before ErrRange.
func TestCountFails(t *testing.T) {
	nines := bytes.Repeat([]byte{255}, 9)
	for _, c := range []struct {
		b    []byte
		most int
		err  api.Errno
	}{
		{nil, 9, api.ErrShort}, {nil, -1, api.ErrShort}, {[]byte{128}, 9, api.ErrShort}, {with([]byte{128}, 1), 999, api.ErrShort}, {with(nil, 1), 999, api.ErrShort}, {nines, 9, api.ErrShort},
		{[]byte{128, 0}, 9, api.ErrForm}, {[]byte{133, 0, 1}, 1, api.ErrForm}, {slices.Concat(nines, []byte{2}), maxInt, api.ErrForm}, {slices.Concat(nines, nines), 0, api.ErrForm},
		{[]byte{5}, 4, api.ErrRange}, {[]byte{1}, 0, api.ErrRange}, {[]byte{1, 0}, -1, api.ErrRange}, {[]byte{1}, -2, api.ErrRange}, {[]byte{127}, minInt, api.ErrRange}, {[]byte{172, 2}, 299, api.ErrRange}, {[]byte{172, 2}, 44, api.ErrRange},
		{slices.Concat(nines, []byte{1}), maxInt, api.ErrRange}, {slices.Concat(nines, []byte{1}), -1, api.ErrRange}, {[]byte{128, 128, 128, 128, 128, 128, 128, 128, 128, 1}, maxInt, api.ErrRange}, {slices.Concat(nines[:8], []byte{127}), maxInt - 1, api.ErrRange},
	} {
		r := octet.Read(c.b)
		if got := r.Count(c.most); got != 0 {
			t.Errorf("Count(%d) of %d = %d, want 0", c.most, c.b, got)
		}
		check(t, r, 0, c.err)
	}
}

// P8.2
func TestInt(t *testing.T) {
	for _, c := range []struct {
		b      []byte
		lo, hi int
		want   int
		left   int
	}{
		{[]byte{3}, -9, 9, -2, 0}, {[]byte{3}, -2, -2, -2, 0}, {[]byte{4, 4}, 2, 2, 2, 1}, {[]byte{0}, 0, 0, 0, 0}, {[]byte{1, 2, 3}, minInt, maxInt, -1, 2}, {[]byte{172, 2}, 0, 150, 150, 0}, {[]byte{171, 2}, -150, 0, -150, 0},
		{leb.PutInt(maxInt), minInt, maxInt, maxInt, 0}, {leb.PutInt(minInt), minInt, maxInt, minInt, 0}, {leb.PutInt(maxInt), maxInt, maxInt, maxInt, 0}, {leb.PutInt(minInt), minInt, minInt, minInt, 0},
	} {
		r := octet.Read(c.b)
		if got := r.Int(c.lo, c.hi); got != c.want {
			t.Errorf("Int(%d, %d) of %d = %d, want %d", c.lo, c.hi, c.b, got, c.want)
		}
		check(t, r, c.left, end(c.left))
	}
}

// P8.2: leb's error comes before ErrRange, and no number is between exchanged limits.
func TestIntFails(t *testing.T) {
	nines := bytes.Repeat([]byte{255}, 9)
	for _, c := range []struct {
		b      []byte
		lo, hi int
		err    api.Errno
	}{
		{nil, -9, 9, api.ErrShort}, {nil, 9, -9, api.ErrShort}, {[]byte{128}, -9, 9, api.ErrShort}, {with([]byte{129}, 0), -9, 9, api.ErrShort}, {[]byte{131, 0}, 9, -9, api.ErrForm}, {slices.Concat(nines, []byte{2}), minInt, maxInt, api.ErrForm},
		{[]byte{3}, -1, 9, api.ErrRange}, {[]byte{3, 0}, -9, -3, api.ErrRange}, {[]byte{4}, 3, 9, api.ErrRange}, {[]byte{4}, -9, 1, api.ErrRange}, {[]byte{0}, 1, -1, api.ErrRange}, {[]byte{0}, 1, maxInt, api.ErrRange}, {[]byte{0}, minInt, -1, api.ErrRange},
		{[]byte{2}, 1, 0, api.ErrRange}, {[]byte{2}, 2, 1, api.ErrRange}, {leb.PutInt(minInt), minInt + 1, maxInt, api.ErrRange}, {leb.PutInt(maxInt), minInt, maxInt - 1, api.ErrRange}, {[]byte{0}, maxInt, minInt, api.ErrRange},
	} {
		r := octet.Read(c.b)
		if got := r.Int(c.lo, c.hi); got != 0 {
			t.Errorf("Int(%d, %d) of %d = %d, want 0", c.lo, c.hi, c.b, got)
		}
		check(t, r, 0, c.err)
	}
}

// P8.2: fewer than one number is none, and no error.
func TestReadSmall(t *testing.T) {
	for _, c := range []struct {
		b    []byte
		n    int
		want []int8
		left int
	}{
		{[]byte{255, 7}, 2, []int8{-1, 7}, 0}, {[]byte{255, 7}, 1, []int8{-1}, 1}, {[]byte{128, 127, 0, 129}, 4, []int8{-128, 127, 0, -127}, 0}, {[]byte{9}, 1, []int8{9}, 0},
		{[]byte{255, 7}, 0, nil, 2}, {[]byte{255, 7}, -1, nil, 2}, {[]byte{255, 7}, minInt, nil, 2}, {nil, 0, nil, 0}, {nil, -5, nil, 0},
	} {
		r := octet.Read(c.b)
		if got := r.Small(c.n); !slices.Equal(got, c.want) {
			t.Errorf("Small(%d) of %d = %d, want %d", c.n, c.b, got, c.want)
		}
		check(t, r, c.left, end(c.left))
	}
	for _, c := range []struct {
		b []byte
		n int
	}{{nil, 1}, {nil, maxInt}, {[]byte{1, 2}, 3}, {with([]byte{1, 2}, 3, 4), 3}, {[]byte{1, 2}, maxInt}, {[]byte{1, 2}, 1 << 32}, {[]byte{1, 2}, 1<<32 + 1}} {
		r := octet.Read(c.b)
		if got := r.Small(c.n); len(got) != 0 {
			t.Errorf("Small(%d) of %d = %d, want none", c.n, c.b, got)
		}
		check(t, r, 0, api.ErrShort)
	}
}

// P8.2
func TestReadWide(t *testing.T) {
	most, least := leb.PutInt(max32), leb.PutInt(min32)
	for _, c := range []struct {
		b    []byte
		n    int
		want []int32
		left int
	}{
		{[]byte{2, 1}, 2, []int32{1, -1}, 0}, {[]byte{2, 1}, 1, []int32{1}, 1}, {[]byte{172, 2, 0, 171, 2}, 3, []int32{150, 0, -150}, 0}, {[]byte{172, 2, 0, 171, 2}, 2, []int32{150, 0}, 2}, {slices.Concat(most, least), 2, []int32{max32, min32}, 0},
		{[]byte{2, 1}, 0, nil, 2}, {[]byte{2, 1}, -1, nil, 2}, {[]byte{128}, minInt, nil, 1}, {nil, 0, nil, 0}, {nil, -5, nil, 0},
	} {
		r := octet.Read(c.b)
		if got := r.Wide(c.n); !slices.Equal(got, c.want) {
			t.Errorf("Wide(%d) of %d = %d, want %d", c.n, c.b, got, c.want)
		}
		check(t, r, c.left, end(c.left))
	}
}

// P8.2: bytes that cannot be enough are ErrShort before any of them is read.
func TestReadWideFails(t *testing.T) {
	above, below := leb.PutInt(max32+1), leb.PutInt(min32-1)
	for _, c := range []struct {
		b   []byte
		n   int
		err api.Errno
	}{
		{nil, 1, api.ErrShort}, {nil, maxInt, api.ErrShort}, {[]byte{2, 1}, 3, api.ErrShort}, {with([]byte{2, 1}, 0, 0), 3, api.ErrShort}, {[]byte{2, 1}, maxInt, api.ErrShort}, {[]byte{2, 1}, 1 << 32, api.ErrShort}, {[]byte{2, 1}, 1<<32 + 1, api.ErrShort},
		{[]byte{128, 0}, 3, api.ErrShort}, {above, len(above) + 1, api.ErrShort}, {[]byte{128, 1, 0}, 3, api.ErrShort}, {[]byte{2, 128}, 2, api.ErrShort}, {[]byte{2, 1, 128, 128}, 3, api.ErrShort},
		{[]byte{128, 0}, 2, api.ErrForm}, {[]byte{128, 0}, 1, api.ErrForm}, {[]byte{2, 129, 0, 3}, 2, api.ErrForm}, {[]byte{2, 129, 0, 3}, 4, api.ErrForm},
		{above, 1, api.ErrRange}, {below, 1, api.ErrRange}, {above, len(above), api.ErrRange}, {slices.Concat([]byte{2, 1}, above, []byte{4}), 4, api.ErrRange}, {slices.Concat(below, []byte{128, 0}), 2, api.ErrRange},
		{leb.PutInt(1 << 32), 1, api.ErrRange}, {leb.PutInt(1<<32 + 5), 1, api.ErrRange}, {leb.PutInt(maxInt), 1, api.ErrRange}, {leb.PutInt(minInt), 1, api.ErrRange},
	} {
		r := octet.Read(c.b)
		if got := r.Wide(c.n); len(got) != 0 {
			t.Errorf("Wide(%d) of %d = %d, want none", c.n, c.b, got)
		}
		check(t, r, 0, c.err)
	}
}

// P8.2: one call goes on where the one before it stopped.
func TestReadsInTurn(t *testing.T) {
	r := octet.Read([]byte{5, 3, 255, 7, 2, 171, 2, 172, 2, 9})
	if got := r.Count(9); got != 5 {
		t.Errorf("Count = %d, want 5", got)
	}
	if got := r.Int(-9, 9); got != -2 {
		t.Errorf("Int = %d, want -2", got)
	}
	check(t, r, 8, api.ErrTrailing)
	if got := r.Small(2); !slices.Equal(got, []int8{-1, 7}) {
		t.Errorf("Small = %d, want -1, 7", got)
	}
	if got := r.Wide(2); !slices.Equal(got, []int32{1, -150}) {
		t.Errorf("Wide = %d, want 1, -150", got)
	}
	check(t, r, 3, api.ErrTrailing)
	if got := r.Count(300); got != 300 {
		t.Errorf("Count = %d, want 300", got)
	}
	if got := r.Small(1); !slices.Equal(got, []int8{9}) {
		t.Errorf("Small = %d, want 9", got)
	}
	check(t, r, 0, api.OK)
	if got := r.Count(9); got != 0 {
		t.Errorf("Count behind the end = %d, want 0", got)
	}
	check(t, r, 0, api.ErrShort)
}

// nothing tells whether all calls answer zero values.
func nothing(t *testing.T, r *octet.Reader, end api.Errno) {
	t.Helper()
	for _, n := range []int{minInt, -1, 0, 1, 2, 5, maxInt} {
		if got := r.Count(n); got != 0 {
			t.Errorf("Count(%d) = %d, want 0", n, got)
		}
		if got := r.Int(-n, n); got != 0 {
			t.Errorf("Int(%d, %d) = %d, want 0", -n, n, got)
		}
		if got := r.Small(n); len(got) != 0 {
			t.Errorf("Small(%d) = %d, want none", n, got)
		}
		if got := r.Wide(n); len(got) != 0 {
			t.Errorf("Wide(%d) = %d, want none", n, got)
		}
		check(t, r, 0, end)
	}
}

// P8.2, P8.3: behind its first error a reader reads nothing, and the error stays the first one.
func TestNothingBehindAnError(t *testing.T) {
	good := []byte{1, 2, 3, 4, 5, 6, 7}
	for _, c := range []struct {
		b    []byte
		call func(r *octet.Reader)
		err  api.Errno
	}{
		{slices.Concat([]byte{128, 0}, good), func(r *octet.Reader) { r.Count(9) }, api.ErrForm}, {slices.Concat([]byte{9}, good), func(r *octet.Reader) { r.Count(8) }, api.ErrRange}, {[]byte{128}, func(r *octet.Reader) { r.Count(9) }, api.ErrShort},
		{slices.Concat([]byte{128, 0}, good), func(r *octet.Reader) { r.Int(-9, 9) }, api.ErrForm}, {slices.Concat([]byte{9}, good), func(r *octet.Reader) { r.Int(-4, 9) }, api.ErrRange}, {[]byte{128}, func(r *octet.Reader) { r.Int(-9, 9) }, api.ErrShort},
		{good, func(r *octet.Reader) { r.Small(8) }, api.ErrShort}, {good, func(r *octet.Reader) { r.Wide(8) }, api.ErrShort},
		{slices.Concat([]byte{2, 128, 0}, good), func(r *octet.Reader) { r.Wide(3) }, api.ErrForm}, {slices.Concat(leb.PutInt(max32+1), good), func(r *octet.Reader) { r.Wide(2) }, api.ErrRange},
	} {
		r := octet.Read(c.b)
		c.call(r)
		check(t, r, 0, c.err)
		nothing(t, r, c.err)
	}
}

// P8.3: that bytes are left is not remembered.
func TestTrailing(t *testing.T) {
	r := octet.Read([]byte{1, 2, 3})
	for i, want := range []int{1, 2, 3} {
		check(t, r, 3-i, api.ErrTrailing)
		if got := r.Count(9); got != want {
			t.Errorf("Count = %d, want %d", got, want)
		}
	}
	check(t, r, 0, api.OK)
	check(t, octet.Read(nil), 0, api.OK)
	check(t, octet.Read([]byte{}), 0, api.OK)
	check(t, octet.Read(with(nil, 1, 2)), 0, api.OK)
	check(t, octet.Read([]byte{0}), 1, api.ErrTrailing)
}

// P8.3, rule 3: a nil reader, and one that no function made.
func TestNoReader(t *testing.T) {
	nothing(t, nil, api.ErrNil)
	var r octet.Reader
	r.Count(1)
	r.Int(0, 1)
	r.Small(1)
	r.Wide(1)
	r.Left()
	r.End()
}

// A model reads by the words of P8.2, each one as it stands.
type model struct {
	rest []byte
	err  api.Errno
}

func (m *model) fail(err api.Errno) {
	m.err = err
}

func (m *model) count(most int) int {
	if m.err != api.OK {
		return 0
	}
	n, size, err := leb.Get(m.rest)
	if err != api.OK {
		m.fail(err)
		return 0
	}
	if most < 0 {
		most = 0
	}
	if n > math.MaxInt64 || int(n) > most {
		m.fail(api.ErrRange)
		return 0
	}
	m.rest = m.rest[size:]
	return int(n)
}

func (m *model) int(lo, hi int) int {
	if m.err != api.OK {
		return 0
	}
	v, size, err := leb.GetInt(m.rest)
	if err != api.OK {
		m.fail(err)
		return 0
	}
	if int(v) < lo || int(v) > hi {
		m.fail(api.ErrRange)
		return 0
	}
	m.rest = m.rest[size:]
	return int(v)
}

func (m *model) small(n int) []int8 {
	if m.err != api.OK || n < 1 {
		return nil
	}
	if len(m.rest) < n {
		m.fail(api.ErrShort)
		return nil
	}
	var l []int8
	for _, v := range m.rest[:n] {
		l = append(l, int8(v))
	}
	m.rest = m.rest[n:]
	return l
}

func (m *model) wide(n int) []int32 {
	if m.err != api.OK || n < 1 {
		return nil
	}
	if len(m.rest) < n {
		m.fail(api.ErrShort)
		return nil
	}
	var l []int32
	for range n {
		l = append(l, int32(m.int(min32, max32)))
	}
	if m.err != api.OK {
		return nil
	}
	return l
}

func (m *model) left() int {
	if m.err != api.OK {
		return 0
	}
	return len(m.rest)
}

func (m *model) end() api.Errno {
	if m.err != api.OK {
		return m.err
	}
	return end(len(m.rest))
}

// draw draws numbers from 0 on, below limits, the same ones for the same seed.
type draw uint32

func (d *draw) below(limit int) int {
	*d = *d*1664525 + 1013904223
	return int(*d>>8) % limit
}

// bytes draws a few bytes; each kind of them makes other numbers and other errors likely.
func (d *draw) bytes() []byte {
	kind := d.below(4)
	b := make([]byte, d.below(40))
	for i := range b {
		switch v := byte(d.below(256)); kind {
		case 0:
			b[i] = v
		case 1:
			b[i] = v % 128
		case 2:
			b[i] = v%8 + 120
		default:
			b[i] = v % 4 * 64
		}
	}
	return b
}

// P8.2, P8.3: calls in any order, against the promises' words.
func TestAnyOrder(t *testing.T) {
	d := draw(8)
	limits := []int{minInt, min32, -129, -70, -2, -1, 0, 1, 2, 70, 126, 127, 128, 300, 16383, max32, maxInt}
	for range 100000 {
		b := d.bytes()
		r, m := octet.Read(b), &model{rest: b}
		for m.err == api.OK && (len(m.rest) > 0 || d.below(2) == 0) {
			lo, hi, n := limits[d.below(len(limits))], limits[d.below(len(limits))], d.below(8)-1
			same := false
			switch d.below(4) {
			case 0:
				same = r.Count(hi) == m.count(hi)
			case 1:
				same = r.Int(lo, hi) == m.int(lo, hi)
			case 2:
				same = slices.Equal(r.Small(n), m.small(n))
			default:
				same = slices.Equal(r.Wide(n), m.wide(n))
			}
			if !same || r.Left() != m.left() || r.End() != m.end() {
				t.Fatalf("of %d, with limits %d, %d and %d numbers: Left() = %d, End() = %d, want %d, %d", b, lo, hi, n, r.Left(), r.End(), m.left(), m.end())
			}
		}
	}
}

// P8.4: what was encoded is read back, whatever follows.
func TestReadBack(t *testing.T) {
	for _, tail := range tails() {
		b := slices.Concat(octet.Small(all8()), octet.Wide(edges32()), leb.Put(12345), leb.PutInt(-12345), octet.Put32(0xCBF43926), tail)
		r := octet.Read(b)
		if got := r.Small(256); !slices.Equal(got, all8()) {
			t.Errorf("before %d, Small = %d", tail, got)
		}
		if got := r.Wide(len(edges32())); !slices.Equal(got, edges32()) {
			t.Errorf("before %d, Wide = %d", tail, got)
		}
		if got := r.Count(12345); got != 12345 {
			t.Errorf("before %d, Count = %d", tail, got)
		}
		if got := r.Int(-12345, 0); got != -12345 {
			t.Errorf("before %d, Int = %d", tail, got)
		}
		check(t, r, 4+len(tail), api.ErrTrailing)
		if got, ok := octet.Get32(b[len(b)-r.Left():]); got != 0xCBF43926 || !ok {
			t.Errorf("before %d, Get32 = %08X, %t", tail, got, ok)
		}
		for _, v := range edges32() {
			r := octet.Read(slices.Concat(octet.Wide([]int32{v}), tail))
			if got := r.Wide(1); !slices.Equal(got, []int32{v}) || r.Left() != len(tail) {
				t.Errorf("before %d, Wide of %d is read as %d, with %d left", tail, v, got, r.Left())
			}
			if got, ok := octet.Get32(slices.Concat(octet.Put32(uint32(v)), tail)); got != uint32(v) || !ok {
				t.Errorf("before %d, Put32 of %d is read as %d, %t", tail, uint32(v), got, ok)
			}
		}
	}
}

// Rule 2: a reader does not keep the bytes that are passed, nor change them.
func TestReaderKeepsNothing(t *testing.T) {
	whole := []byte{5, 3, 255, 7, 2, 1, 77, 88}
	b := whole[:6]
	r := octet.Read(b)
	clear(b)
	if got := r.Count(9); got != 5 {
		t.Errorf("Count = %d, want 5", got)
	}
	if got := r.Int(-9, 9); got != -2 {
		t.Errorf("Int = %d, want -2", got)
	}
	small := r.Small(2)
	wide := r.Wide(2)
	_, _ = append(small, 9), append(wide, 9)
	if !slices.Equal(small, []int8{-1, 7}) || !slices.Equal(wide, []int32{1, -1}) {
		t.Errorf("Small and Wide = %d, %d, want -1, 7 and 1, -1", small, wide)
	}
	check(t, r, 0, api.OK)
	if !slices.Equal(whole, []byte{0, 0, 0, 0, 0, 0, 77, 88}) {
		t.Errorf("the bytes became %d", whole)
	}
}

// Rule 2: two readers of the same bytes do not move each other, and two results share nothing.
func TestReadersAlone(t *testing.T) {
	b := []byte{1, 2, 3, 4, 5, 6}
	one, two := octet.Read(b), octet.Read(b)
	first := one.Small(3)
	clear(first[:cap(first)])
	wide := one.Wide(3)
	clear(wide[:cap(wide)])
	one.Count(1)
	if got := two.Small(3); !slices.Equal(got, []int8{1, 2, 3}) {
		t.Errorf("Small = %d, want 1, 2, 3", got)
	}
	if got := two.Wide(3); !slices.Equal(got, []int32{2, -3, 3}) {
		t.Errorf("Wide = %d, want 2, -3, 3", got)
	}
	check(t, one, 0, api.ErrShort)
	check(t, two, 0, api.OK)
}

// Rule 2: what is encoded stays as it is, and results are new.
func TestEncodedIsNew(t *testing.T) {
	small, wide := []int8{1, -1, 5}, []int32{1, -1, 5}
	results := [][]byte{octet.Small(small[:2]), octet.Wide(wide[:2]), octet.Put32(513), octet.Small(small[:2]), octet.Wide(wide[:2]), octet.Put32(513)}
	for _, b := range results[:3] {
		clear(b[:cap(b)])
	}
	if !bytes.Equal(results[3], []byte{1, 255}) || !bytes.Equal(results[4], []byte{2, 1}) || !bytes.Equal(results[5], []byte{1, 2, 0, 0}) {
		t.Errorf("results became %d", results[3:])
	}
	if !slices.Equal(small, []int8{1, -1, 5}) || !slices.Equal(wide, []int32{1, -1, 5}) {
		t.Errorf("the lists became %d, %d", small, wide)
	}
	b := with([]byte{1, 2, 0, 0}, 9)
	if n, ok := octet.Get32(b); n != 513 || !ok || !bytes.Equal(b[:5], []byte{1, 2, 0, 0, 9}) {
		t.Errorf("Get32 = %d, %t, and the bytes are %d", n, ok, b[:5])
	}
}
