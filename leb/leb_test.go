package leb_test

import (
	"bytes"
	"math"
	"math/big"
	"slices"
	"testing"

	"stepwell/api"
	"stepwell/leb"
)

// edges are the numbers at and beside all powers of two, where a digit or a bit more is needed.
func edges() []uint64 {
	var l []uint64
	for bit := range 64 {
		n := uint64(1) << bit
		l = append(l, n-1, n, n+1, n|n>>1, -n)
	}
	return append(l, 300, 12345678901234567890, math.MaxUint64)
}

// edgesInt are the same with signs.
func edgesInt() []int64 {
	l := []int64{math.MinInt64, math.MinInt64 + 1, math.MaxInt64 - 1, math.MaxInt64}
	for _, n := range edges() {
		l = append(l, int64(n), -int64(n), int64(n/2), -int64(n/2), ^int64(n/2))
	}
	return l
}

// written is a number's digits in base 128, found by a division without limits.
func written(n *big.Int) []byte {
	rest, digit := new(big.Int).Set(n), new(big.Int)
	var b []byte
	for {
		rest.DivMod(rest, big.NewInt(128), digit)
		if rest.Sign() == 0 {
			return append(b, byte(digit.Int64()))
		}
		b = append(b, byte(digit.Int64())+128)
	}
}

func writtenUint(n uint64) []byte {
	return written(new(big.Int).SetUint64(n))
}

// signed is the number that stands for one with a sign, calculated without limits.
func signed(v int64) *big.Int {
	n := new(big.Int).Mul(big.NewInt(2), new(big.Int).Abs(big.NewInt(v)))
	if v < 0 {
		n.Sub(n, big.NewInt(1))
	}
	return n
}

type read struct {
	n    uint64
	size int
	err  api.Errno
}

func get(b []byte) read {
	n, size, err := leb.Get(b)
	return read{n, size, err}
}

// wanted is what Get must answer, by the words of P6.2 one after another.
func wanted(b []byte) read {
	end := slices.IndexFunc(b, func(v byte) bool { return v < 128 })
	if len(b) >= 10 && (end < 0 || end >= 9) && b[9] > 1 {
		return read{err: api.ErrForm}
	}
	if end < 0 {
		return read{err: api.ErrShort}
	}
	if end > 0 && b[end] == 0 {
		return read{err: api.ErrForm}
	}
	n := new(big.Int)
	for i := end; i >= 0; i-- {
		n.Add(n.Mul(n, big.NewInt(128)), big.NewInt(int64(b[i]%128)))
	}
	return read{n: n.Uint64(), size: end + 1}
}

func checkGet(t *testing.T, b []byte) {
	t.Helper()
	if got, want := get(b), wanted(b); got != want {
		t.Fatalf("Get(%d) = %+v, want %+v", b, got, want)
	}
}

// P6.1
func TestPut(t *testing.T) {
	for _, c := range []struct {
		n    uint64
		want []byte
	}{
		{0, []byte{0}}, {1, []byte{1}}, {127, []byte{127}}, {128, []byte{128, 1}}, {129, []byte{129, 1}}, {255, []byte{255, 1}}, {256, []byte{128, 2}}, {300, []byte{172, 2}},
		{16383, []byte{255, 127}}, {16384, []byte{128, 128, 1}}, {1 << 32, []byte{128, 128, 128, 128, 16}}, {1<<35 - 1, []byte{255, 255, 255, 255, 127}}, {1 << 35, []byte{128, 128, 128, 128, 128, 1}},
		{1<<63 - 1, []byte{255, 255, 255, 255, 255, 255, 255, 255, 127}}, {1 << 63, []byte{128, 128, 128, 128, 128, 128, 128, 128, 128, 1}}, {math.MaxUint64, []byte{255, 255, 255, 255, 255, 255, 255, 255, 255, 1}},
	} {
		if got := leb.Put(c.n); !bytes.Equal(got, c.want) {
			t.Errorf("Put(%d) = %d, want %d", c.n, got, c.want)
		}
		if got := leb.Size(c.n); got != len(c.want) {
			t.Errorf("Size(%d) = %d, want %d", c.n, got, len(c.want))
		}
	}
}

// P6.1, against a division without limits.
func TestPutAndSizeOfEdges(t *testing.T) {
	l := edges()
	for n := range uint64(1 << 15) {
		l = append(l, n)
	}
	for _, n := range l {
		want := writtenUint(n)
		if got := leb.Put(n); !bytes.Equal(got, want) {
			t.Fatalf("Put(%d) = %d, want %d", n, got, want)
		}
		if got := leb.Size(n); got != len(want) {
			t.Fatalf("Size(%d) = %d, want %d", n, got, len(want))
		}
	}
}

// P6.2
func TestGet(t *testing.T) {
	for _, c := range []struct {
		b    []byte
		want read
	}{
		{[]byte{0}, read{n: 0, size: 1}}, {[]byte{0, 0}, read{n: 0, size: 1}}, {[]byte{1}, read{n: 1, size: 1}}, {[]byte{127, 255}, read{n: 127, size: 1}}, {[]byte{128, 1}, read{n: 128, size: 2}},
		{[]byte{172, 2}, read{n: 300, size: 2}}, {[]byte{172, 2, 9, 9}, read{n: 300, size: 2}}, {[]byte{255, 127, 0}, read{n: 16383, size: 2}}, {[]byte{128, 128, 1, 128}, read{n: 16384, size: 3}},
		{[]byte{255, 255, 255, 255, 255, 255, 255, 255, 127}, read{n: 1<<63 - 1, size: 9}}, {[]byte{255, 255, 255, 255, 255, 255, 255, 255, 127, 2}, read{n: 1<<63 - 1, size: 9}},
		{[]byte{128, 128, 128, 128, 128, 128, 128, 128, 128, 1}, read{n: 1 << 63, size: 10}}, {[]byte{255, 255, 255, 255, 255, 255, 255, 255, 255, 1}, read{n: math.MaxUint64, size: 10}},
		{[]byte{255, 255, 255, 255, 255, 255, 255, 255, 255, 1, 255}, read{n: math.MaxUint64, size: 10}},
	} {
		if got := get(c.b); got != c.want {
			t.Errorf("Get(%d) = %+v, want %+v", c.b, got, c.want)
		}
	}
}

// P6.2: with an error, the number and its size are 0.
func TestGetWrong(t *testing.T) {
	for _, c := range []struct {
		b    []byte
		want api.Errno
	}{
		{nil, api.ErrShort}, {[]byte{}, api.ErrShort}, {[]byte{128}, api.ErrShort}, {[]byte{255}, api.ErrShort}, {[]byte{129, 130}, api.ErrShort},
		{bytes.Repeat([]byte{128}, 8), api.ErrShort}, {bytes.Repeat([]byte{128}, 9), api.ErrShort}, {bytes.Repeat([]byte{255}, 9), api.ErrShort},
		{[]byte{128, 0}, api.ErrForm}, {[]byte{255, 0}, api.ErrForm}, {[]byte{129, 0, 1}, api.ErrForm}, {[]byte{128, 128, 0}, api.ErrForm}, {[]byte{128, 129, 0}, api.ErrForm},
		{[]byte{255, 255, 255, 255, 255, 255, 255, 255, 0}, api.ErrForm}, {[]byte{255, 255, 255, 255, 255, 255, 255, 255, 255, 0}, api.ErrForm},
		{[]byte{255, 255, 255, 255, 255, 255, 255, 255, 255, 2}, api.ErrForm}, {[]byte{128, 128, 128, 128, 128, 128, 128, 128, 128, 3}, api.ErrForm}, {[]byte{128, 128, 128, 128, 128, 128, 128, 128, 128, 127}, api.ErrForm},
		{bytes.Repeat([]byte{128}, 10), api.ErrForm}, {bytes.Repeat([]byte{255}, 10), api.ErrForm}, {bytes.Repeat([]byte{128}, 11), api.ErrForm}, {bytes.Repeat([]byte{129}, 1000), api.ErrForm},
		{append(bytes.Repeat([]byte{128}, 9), 129, 1), api.ErrForm}, {append(bytes.Repeat([]byte{128}, 10), 0), api.ErrForm},
	} {
		if got := get(c.b); got != (read{err: c.want}) {
			t.Errorf("Get(%d) = %+v, want error %d alone", c.b, got, c.want)
		}
	}
}

// P6.2: all of two bytes, and all lengths around the limit with each last byte, against the promise's words.
func TestGetOfAll(t *testing.T) {
	checkGet(t, nil)
	for a := range 256 {
		checkGet(t, []byte{byte(a)})
		for b := range 256 {
			checkGet(t, []byte{byte(a), byte(b)})
			checkGet(t, []byte{128, byte(a), byte(b), 0})
			checkGet(t, append(bytes.Repeat([]byte{200}, 8), byte(a), byte(b)))
			checkGet(t, append(bytes.Repeat([]byte{129}, 8), byte(a), byte(b), 1))
		}
	}
	for size := range 13 {
		for v := range 256 {
			for _, before := range []byte{128, 171, 255} {
				b := append(bytes.Repeat([]byte{before}, size), byte(v))
				checkGet(t, b)
				checkGet(t, append(b, 0))
				checkGet(t, append(b, 127, 128))
			}
		}
	}
}

// P6.2: only the bytes that are passed count, not what lies behind them in their capacity.
func TestGetReadsNoFurther(t *testing.T) {
	whole := []byte{172, 2, 128, 0}
	for _, c := range []struct {
		b    []byte
		want read
	}{{whole[:0], read{err: api.ErrShort}}, {whole[:1], read{err: api.ErrShort}}, {whole[:2], read{n: 300, size: 2}}, {whole[2:3], read{err: api.ErrShort}}} {
		if got := get(c.b); got != c.want {
			t.Errorf("Get(%d) = %+v, want %+v", c.b, got, c.want)
		}
		n, size, err := leb.GetInt(c.b)
		if want := (read{n: c.want.n / 2, size: c.want.size, err: c.want.err}); (read{uint64(n), size, err}) != want {
			t.Errorf("GetInt(%d) = %d, %d, %d, want %+v", c.b, n, size, err, want)
		}
	}
	if !bytes.Equal(whole, []byte{172, 2, 128, 0}) {
		t.Errorf("the bytes became %d", whole)
	}
}

// P6.3
func TestPutInt(t *testing.T) {
	for _, c := range []struct {
		v    int64
		want []byte
	}{
		{0, []byte{0}}, {-1, []byte{1}}, {1, []byte{2}}, {-2, []byte{3}}, {2, []byte{4}}, {63, []byte{126}}, {-64, []byte{127}}, {64, []byte{128, 1}}, {-65, []byte{129, 1}}, {150, []byte{172, 2}}, {-150, []byte{171, 2}},
		{1 << 62, []byte{128, 128, 128, 128, 128, 128, 128, 128, 128, 1}}, {-1 << 62, []byte{255, 255, 255, 255, 255, 255, 255, 255, 127}}, {1<<62 - 1, []byte{254, 255, 255, 255, 255, 255, 255, 255, 127}},
		{math.MaxInt64, []byte{254, 255, 255, 255, 255, 255, 255, 255, 255, 1}}, {math.MinInt64, []byte{255, 255, 255, 255, 255, 255, 255, 255, 255, 1}},
	} {
		if got := leb.PutInt(c.v); !bytes.Equal(got, c.want) {
			t.Errorf("PutInt(%d) = %d, want %d", c.v, got, c.want)
		}
	}
	for _, v := range edgesInt() {
		if got, want := leb.PutInt(v), written(signed(v)); !bytes.Equal(got, want) {
			t.Errorf("PutInt(%d) = %d, want %d", v, got, want)
		}
	}
}

// P6.3
func TestGetInt(t *testing.T) {
	for _, c := range []struct {
		b    []byte
		want int64
		size int
		err  api.Errno
	}{
		{[]byte{0}, 0, 1, api.OK}, {[]byte{1}, -1, 1, api.OK}, {[]byte{2}, 1, 1, api.OK}, {[]byte{3, 9}, -2, 1, api.OK}, {[]byte{127}, -64, 1, api.OK}, {[]byte{128, 1, 255}, 64, 2, api.OK},
		{[]byte{254, 255, 255, 255, 255, 255, 255, 255, 255, 1}, math.MaxInt64, 10, api.OK}, {[]byte{255, 255, 255, 255, 255, 255, 255, 255, 255, 1}, math.MinInt64, 10, api.OK},
		{nil, 0, 0, api.ErrShort}, {[]byte{129}, 0, 0, api.ErrShort}, {bytes.Repeat([]byte{255}, 9), 0, 0, api.ErrShort}, {[]byte{129, 0}, 0, 0, api.ErrForm}, {[]byte{130, 128, 0}, 0, 0, api.ErrForm},
		{[]byte{255, 255, 255, 255, 255, 255, 255, 255, 255, 2}, 0, 0, api.ErrForm}, {bytes.Repeat([]byte{129}, 10), 0, 0, api.ErrForm},
	} {
		if got, size, err := leb.GetInt(c.b); got != c.want || size != c.size || err != c.err {
			t.Errorf("GetInt(%d) = %d, %d, %d, want %d, %d, %d", c.b, got, size, err, c.want, c.size, c.err)
		}
	}
}

// P6.3: GetInt is Get, of the number that stands for one with a sign.
func TestGetIntIsGet(t *testing.T) {
	for a := range 256 {
		for b := range 256 {
			list := []byte{byte(a), byte(b)}
			want := wanted(list)
			got, size, err := leb.GetInt(list)
			if size != want.size || err != want.err || err != api.OK && got != 0 {
				t.Fatalf("GetInt(%d) = %d, %d, %d, want size %d, error %d", list, got, size, err, want.size, want.err)
			}
			if err == api.OK && signed(got).Uint64() != want.n {
				t.Fatalf("GetInt(%d) = %d, want the one that %d stands for", list, got, want.n)
			}
		}
	}
}

// P6.4: numbers are read back, whatever follows.
func TestReadBack(t *testing.T) {
	for _, tail := range [][]byte{nil, {0}, {1}, {127}, {128}, {255, 255}, bytes.Repeat([]byte{128}, 12)} {
		for _, n := range edges() {
			b := leb.Put(n)
			if got := get(append(slices.Clone(b), tail...)); got != (read{n: n, size: len(b)}) {
				t.Fatalf("Get of Put(%d) and %d = %+v, want the number and %d", n, tail, got, len(b))
			}
		}
		for _, v := range edgesInt() {
			b := leb.PutInt(v)
			if got, size, err := leb.GetInt(append(slices.Clone(b), tail...)); got != v || size != len(b) || err != api.OK {
				t.Fatalf("GetInt of PutInt(%d) and %d = %d, %d, %d, want the number and %d", v, tail, got, size, err, len(b))
			}
		}
	}
}

// P6.4: whatever is read is what Put and PutInt write, and a number cut short is none.
func TestOnlyOneEncoding(t *testing.T) {
	for a := range 256 {
		for b := range 256 {
			for _, list := range [][]byte{{byte(a), byte(b)}, {255, byte(a), byte(b)}, {129, 128, byte(a), byte(b)}, append(bytes.Repeat([]byte{128}, 8), byte(a), byte(b))} {
				n, size, err := leb.Get(list)
				if err == api.OK && !bytes.Equal(leb.Put(n), list[:size]) {
					t.Fatalf("Get(%d) = %d, and Put of it is %d", list, n, leb.Put(n))
				}
				v, size, err := leb.GetInt(list)
				if err == api.OK && !bytes.Equal(leb.PutInt(v), list[:size]) {
					t.Fatalf("GetInt(%d) = %d, and PutInt of it is %d", list, v, leb.PutInt(v))
				}
			}
		}
	}
	for _, n := range edges() {
		b := leb.Put(n)
		for size := range len(b) {
			if got := get(b[:size]); got != (read{err: api.ErrShort}) {
				t.Fatalf("Get(%d), a part of %d, = %+v, want ErrShort alone", b[:size], n, got)
			}
		}
	}
}

// Rules 2 and 5: two results share nothing, and a call does not change a later one.
func TestPutIsNew(t *testing.T) {
	for _, n := range []uint64{0, 5, 127, 300, math.MaxUint64} {
		first, second := leb.Put(n), leb.Put(n)
		clear(first[:cap(first)])
		if want := writtenUint(n); !bytes.Equal(second, want) || !bytes.Equal(leb.Put(n), want) {
			t.Errorf("Put(%d) changed with another result", n)
		}
		whole, part := leb.PutInt(int64(n)), leb.PutInt(int64(n))
		clear(whole[:cap(whole)])
		if want := written(signed(int64(n))); !bytes.Equal(part, want) || !bytes.Equal(leb.PutInt(int64(n)), want) {
			t.Errorf("PutInt(%d) changed with another result", int64(n))
		}
	}
}
