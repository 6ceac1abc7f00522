package crc_test

import (
	"bytes"
	"hash/crc32"
	"math"
	"slices"
	"testing"

	"stepwell/crc"
)

// shifted is a register behind some of the definition's shifts.
func shifted(register uint32, times int) uint32 {
	for range times {
		out := register & 1
		register >>= 1
		if out == 1 {
			register ^= 0xEDB88320
		}
	}
	return register
}

// defined is the checksum by the definition's words, one after another.
func defined(b []byte) uint32 {
	register := uint32(0xFFFFFFFF)
	for _, v := range b {
		register = register&0xFFFFFF00 | (register&0xFF ^ uint32(v))
		register = shifted(register, 8)
	}
	return register ^ 0xFFFFFFFF
}

// varied is some bytes, other ones for each seed.
func varied(size int, seed uint32) []byte {
	b := make([]byte, size)
	for i := range b {
		seed = seed*1664525 + 1013904223
		b[i] = byte(seed >> 24)
	}
	return b
}

// samples are bytes of many lengths: equal ones, rising ones, varied ones.
func samples() [][]byte {
	l := [][]byte{nil, {}}
	for size := range 40 {
		rising := make([]byte, size)
		for i := range rising {
			rising[i] = byte(i)
		}
		l = append(l, make([]byte, size), bytes.Repeat([]byte{255}, size), rising, varied(size, uint32(size)))
	}
	return append(l, varied(255, 1), varied(256, 2), varied(1000, 3), make([]byte, 4096), varied(1<<16+1, 4))
}

// P7.1
func TestOf(t *testing.T) {
	for _, c := range []struct {
		b    []byte
		want uint32
	}{
		{nil, 0}, {[]byte{}, 0}, {[]byte("123456789"), 0xCBF43926}, {[]byte("a"), 0xE8B7BE43}, {[]byte("abc"), 0x352441C2}, {[]byte("STW1"), defined([]byte("STW1"))},
		{[]byte{0}, 0xD202EF8D}, {[]byte{255}, 0xFF000000}, {[]byte{0, 0, 0, 0}, 0x2144DF1C}, {[]byte{255, 255, 255, 255}, 0xFFFFFFFF}, {[]byte("The quick brown fox jumps over the lazy dog"), 0x414FA339},
	} {
		if got := crc.Of(c.b); got != c.want {
			t.Errorf("Of(%d) = %08X, want %08X", c.b, got, c.want)
		}
	}
}

// P7.1, against the definition's words and another calculation of the same sum.
func TestOfSamples(t *testing.T) {
	l := samples()
	for a := range 256 {
		l = append(l, []byte{byte(a)}, []byte{0, byte(a)}, []byte{byte(a), 255, 7})
	}
	for _, b := range l {
		got := crc.Of(b)
		if want := defined(b); got != want {
			t.Fatalf("Of %d bytes = %08X, want %08X", len(b), got, want)
		}
		if want := crc32.ChecksumIEEE(b); got != want {
			t.Fatalf("Of %d bytes = %08X, want %08X", len(b), got, want)
		}
	}
}

// P7.1
func TestMore(t *testing.T) {
	for _, b := range samples() {
		want := defined(b)
		for _, cut := range []int{0, 1, 2, len(b) / 3, len(b) / 2, len(b) - 1, len(b)} {
			if cut < 0 || cut > len(b) {
				continue
			}
			if got := crc.More(defined(b[:cut]), b[cut:]); got != want {
				t.Fatalf("More of %d bytes and %d = %08X, want %08X", cut, len(b)-cut, got, want)
			}
		}
		if got := crc.More(0, b); got != want {
			t.Fatalf("More(0, %d bytes) = %08X, want %08X", len(b), got, want)
		}
	}
	whole := varied(300, 9)
	sum := crc.Of(nil)
	for i := range whole {
		sum = crc.More(sum, whole[i:i+1])
		if want := defined(whole[:i+1]); sum != want {
			t.Fatalf("More byte by byte, at %d, = %08X, want %08X", i, sum, want)
		}
	}
}

// P7.1: no more bytes leave any sum as it is.
func TestMoreOfNone(t *testing.T) {
	for _, sum := range []uint32{0, 1, 0xCBF43926, 1 << 31, math.MaxUint32} {
		if got := crc.More(sum, nil); got != sum {
			t.Errorf("More(%08X, nil) = %08X", sum, got)
		}
		if got := crc.More(sum, []byte{}); got != sum {
			t.Errorf("More(%08X, none) = %08X", sum, got)
		}
	}
}

// P7.2
func TestJoin(t *testing.T) {
	digits := []byte("123456789")
	for cut := range len(digits) + 1 {
		if got := crc.Join(defined(digits[:cut]), defined(digits[cut:]), uint64(len(digits)-cut)); got != 0xCBF43926 {
			t.Errorf("Join at %d = %08X, want CBF43926", cut, got)
		}
	}
	for _, a := range samples() {
		for _, b := range samples() {
			if len(a)+len(b) > 1200 {
				continue
			}
			if got, want := crc.Join(defined(a), defined(b), uint64(len(b))), defined(slices.Concat(a, b)); got != want {
				t.Fatalf("Join of %d bytes and %d = %08X, want %08X", len(a), len(b), got, want)
			}
		}
	}
	for _, size := range []int{1<<16 - 1, 1 << 16, 1<<16 + 1, 1<<20 + 77} {
		a, b := varied(77, 5), varied(size, 6)
		if got, want := crc.Join(crc.Of(a), crc.Of(b), uint64(size)), crc.More(crc.Of(a), b); got != want {
			t.Errorf("Join of %d bytes and %d = %08X, want %08X", len(a), size, got, want)
		}
	}
}

// P7.2: no bytes behind, or none before.
func TestJoinOfNone(t *testing.T) {
	for _, sum := range []uint32{0, 1, 0xCBF43926, 1 << 31, math.MaxUint32} {
		if got := crc.Join(sum, 0, 0); got != sum {
			t.Errorf("Join(%08X, 0, 0) = %08X", sum, got)
		}
	}
	for _, b := range samples() {
		if got, want := crc.Join(0, defined(b), uint64(len(b))), defined(b); got != want {
			t.Errorf("Join of none and %d bytes = %08X, want %08X", len(b), got, want)
		}
	}
}

// steps is what some bytes of 0 make of each bit of a register.
type steps [32]uint32

func (s steps) of(register uint32) uint32 {
	made := uint32(0)
	for bit := range s {
		if register>>bit&1 == 1 {
			made ^= s[bit]
		}
	}
	return made
}

// manySteps is n bytes' steps, found bit by bit of n from the definition's shifts.
func manySteps(n uint64) steps {
	var all, power steps
	for bit := range all {
		all[bit], power[bit] = 1<<bit, shifted(1<<bit, 8)
	}
	for ; n > 0; n >>= 1 {
		if n&1 == 1 {
			for bit := range all {
				all[bit] = power.of(all[bit])
			}
		}
		var next steps
		for bit := range next {
			next[bit] = power.of(power[bit])
		}
		power = next
	}
	return all
}

// P7.2: as many bytes of 0 as nobody can lay down, against the steps from the definition.
func TestJoinOfMany(t *testing.T) {
	counts := []uint64{math.MaxUint32 - 1, math.MaxUint32, 1<<40 + 12345, 12345678901234567890, math.MaxUint64 - 1, math.MaxUint64}
	for bit := range 64 {
		counts = append(counts, 1<<bit, 1<<bit-1, 1<<bit+1)
	}
	sums := []uint32{0, 1, 0xCBF43926, 0xEDB88320, 1 << 31, math.MaxUint32}
	for _, n := range counts {
		many := manySteps(n)
		zeros := ^many.of(math.MaxUint32)
		for _, a := range sums {
			want := ^many.of(^a)
			if got := crc.Join(a, zeros, n); got != want {
				t.Fatalf("Join(%08X, %08X, %d) = %08X, want %08X", a, zeros, n, got, want)
			}
			for _, b := range sums {
				if got := crc.Join(a, zeros^b, n); got != want^b {
					t.Fatalf("Join(%08X, %08X, %d) = %08X, want %08X", a, zeros^b, n, got, want^b)
				}
			}
		}
	}
}

// P7.2: three parts are joined in either order.
func TestJoinInEitherOrder(t *testing.T) {
	for _, n := range []uint64{0, 1, 9, 1 << 20, 1 << 33, 1<<62 - 1} {
		for _, m := range []uint64{0, 2, 77, 1 << 32, 1<<62 + 1} {
			a, b, c := uint32(0x12345678), uint32(0x9ABCDEF0), uint32(0x0FEDCBA9)
			first := crc.Join(crc.Join(a, b, n), c, m)
			second := crc.Join(a, crc.Join(b, c, m), n+m)
			if first != second {
				t.Errorf("%d and %d bytes: %08X and %08X", n, m, first, second)
			}
		}
	}
}

// P7.3
func TestTable(t *testing.T) {
	table := crc.Table()
	for half, got := range table {
		if want := shifted(uint32(half), 4); got != want {
			t.Errorf("Table()[%d] = %08X, want %08X", half, got, want)
		}
	}
	if table[1] != 0x1DB71064 || table[8] != 0xEDB88320 || table[15] != 0xBDBDF21C {
		t.Errorf("Table() = %08X", table)
	}
	clear(table[:])
	if again := crc.Table(); again[1] != 0x1DB71064 || crc.Of([]byte("123456789")) != 0xCBF43926 {
		t.Errorf("Table() changed to %08X with another result", again)
	}
}

// P7.4
func TestOneByteChanged(t *testing.T) {
	for _, size := range []int{1, 2, 3, 4, 5, 9, 64, 200} {
		b := varied(size, uint32(size))
		want := crc.Of(b)
		for i := range b {
			for change := 1; change < 256; change++ {
				b[i] ^= byte(change)
				if crc.Of(b) == want {
					t.Fatalf("a change by %d of byte %d of %d keeps the sum", change, i, size)
				}
				b[i] ^= byte(change)
			}
		}
	}
}

// Rule 2: the bytes that are passed stay as they are, and what lies behind them does not count.
func TestBytesAreKept(t *testing.T) {
	whole := varied(100, 7)
	before := slices.Clone(whole)
	part := whole[20:50]
	if got, want := crc.Of(part), defined(slices.Clone(part)); got != want {
		t.Errorf("Of a part = %08X, want %08X", got, want)
	}
	if got, want := crc.More(crc.Of(whole[:20]), part), defined(slices.Clone(whole[:50])); got != want {
		t.Errorf("More of a part = %08X, want %08X", got, want)
	}
	if !slices.Equal(whole, before) {
		t.Errorf("the bytes became %d", whole)
	}
}
