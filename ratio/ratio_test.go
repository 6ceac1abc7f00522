package ratio_test

import (
	"math"
	"math/big"
	"slices"
	"testing"

	"stepwell/api"
	"stepwell/ratio"
	"stepwell/sample"
)

const (
	minInt = math.MinInt64
	maxInt = math.MaxInt64
	min32  = math.MinInt32
	max32  = math.MaxInt32
)

// terms are numbers and denominators at and beside powers of two, where a Shift changes.
var terms = []int{
	1, 2, 3, 4, 5, 6, 7, 8, 9, 10, 100, 127, 128, 255, 256, 257, 641, 1000, 4095, 4096, 32767, 32768, 65535, 65536, 65537, 1000003,
	1<<29 - 1, 1 << 29, 1<<30 - 1, 1 << 30, 1<<30 + 1, 1431655765, 1431655766, max32 - 2, max32 - 1, max32,
}

var wrongTerms = []int{minInt, minInt + 1, -1 << 32, min32, -max32, -3, -1, 0, max32 + 1, max32 + 2, 1<<32 - 1, 1 << 32, 1<<32 + 1, 1 << 62, maxInt - 1, maxInt}

var rightShifts = []int{0, 1, 2, 15, 29, 30, 31, 32, 33, 34, 60, 61, api.MaxShift}

var rightMults = []int32{1, 2, 3, 5, 7, 255, 256, 65535, 65536, 1<<29 - 1, 1 << 29, 1<<29 + 1, 1<<30 - 1, 1 << 30, 1<<30 + 1, 3 << 29, max32 - 1, max32}

var wrongScales = sample.WrongScales()

// eachScale visits valid scales.
func eachScale(visit func(q api.Quant)) {
	for _, mult := range rightMults {
		for _, shift := range rightShifts {
			visit(api.Quant{Mult: mult, Shift: shift, Zero: int8(mult%100) - int8(shift)})
		}
	}
}

// worth is a Mult by 2 to the power of a Shift, without limits.
func worth(q api.Quant) *big.Rat {
	return new(big.Rat).SetFrac(big.NewInt(int64(q.Mult)), new(big.Int).Lsh(big.NewInt(1), uint(q.Shift)))
}

// P3.1
func TestOf(t *testing.T) {
	for _, c := range []struct {
		num, den int
		mult     int32
		shift    int
	}{
		{1, 1, 1 << 30, 30}, {7, 7, 1 << 30, 30}, {max32, max32, 1 << 30, 30}, {1, 2, 1 << 30, 31}, {2, 1, 1 << 30, 29}, {3, 1, 3 << 29, 29}, {3, 2, 3 << 29, 30},
		{1, 3, 1431655765, 32}, {2, 3, 1431655765, 31}, {4, 3, 1431655765, 30}, {1, 7, 1227133513, 33}, {5, 3, 1789569706, 30},
		{max32, 1, max32, 0}, {max32 - 1, 1, max32 - 1, 0}, {1 << 30, 1, 1 << 30, 0}, {1<<30 - 1, 1, max32 - 1, 1}, {max32, 2, max32, 1}, {max32, 3, 1431655764, 1},
		{1, max32, 1 << 30, 61}, {1, 1 << 30, 1 << 30, 60}, {1, 1<<30 + 1, max32 - 1, 61}, {max32 - 1, max32, max32 - 1, 31}, {max32, max32 - 1, 1 << 30, 30}, {2, max32, 1 << 30, 60},
	} {
		want := api.Quant{Mult: c.mult, Shift: c.shift}
		if got, err := ratio.Of(c.num, c.den); got != want || err != api.OK {
			t.Errorf("Of(%d, %d) = %+v, %d, want %+v, 0", c.num, c.den, got, err, want)
		}
	}
}

// checkOf holds a scale against its ratio: it is not above it, and the next one is.
func checkOf(t *testing.T, num, den int) {
	t.Helper()
	q, err := ratio.Of(num, den)
	if err != api.OK || q.Zero != 0 || q.Mult < 1<<30 || q.Shift < 0 || q.Shift > api.MaxShift {
		t.Fatalf("Of(%d, %d) = %+v, %d", num, den, q, err)
	}
	exact := big.NewRat(int64(num), int64(den))
	if worth(q).Cmp(exact) > 0 {
		t.Errorf("Of(%d, %d) = %+v is above it", num, den, q)
	}
	next := worth(q)
	next.Add(next, worth(api.Quant{Mult: 1, Shift: q.Shift}))
	if next.Cmp(exact) <= 0 {
		t.Errorf("Of(%d, %d) = %+v, but the next Mult is not above it either", num, den, q)
	}
}

// P3.1, against a calculation without limits.
func TestOfIsTheGreatest(t *testing.T) {
	for _, num := range terms {
		for _, den := range terms {
			checkOf(t, num, den)
		}
	}
	for num := 1; num <= 130; num++ {
		for den := 1; den <= 130; den++ {
			checkOf(t, num, den)
		}
	}
}

// P3.1
func TestOfWrongTerms(t *testing.T) {
	for _, wrong := range wrongTerms {
		for _, other := range slices.Concat(terms, wrongTerms) {
			for _, pair := range [][2]int{{wrong, other}, {other, wrong}} {
				if got, err := ratio.Of(pair[0], pair[1]); got != (api.Quant{}) || err != api.ErrArg {
					t.Errorf("Of(%d, %d) = %+v, %d, want the zero scale, ErrArg", pair[0], pair[1], got, err)
				}
			}
		}
	}
}

// P3.2
func TestPlain(t *testing.T) {
	for _, c := range []struct{ q, want api.Quant }{
		{api.Quant{Mult: 1, Zero: 4}, api.Quant{Mult: 1 << 30, Shift: 30, Zero: 4}},
		{api.Quant{Mult: 3, Shift: 2, Zero: -128}, api.Quant{Mult: 3 << 29, Shift: 31, Zero: -128}},
		{api.Quant{Mult: 1 << 30, Shift: 5, Zero: 127}, api.Quant{Mult: 1 << 30, Shift: 5, Zero: 127}},
		{api.Quant{Mult: 1<<30 - 1, Shift: 5, Zero: 1}, api.Quant{Mult: max32 - 1, Shift: 6, Zero: 1}},
		{api.Quant{Mult: 1<<30 + 1, Shift: 5}, api.Quant{Mult: 1<<30 + 1, Shift: 5}},
		{api.Quant{Mult: max32, Shift: 0, Zero: -1}, api.Quant{Mult: max32, Shift: 0, Zero: -1}},
		{api.Quant{Mult: 1 << 29, Shift: 61}, api.Quant{Mult: 1 << 30, Shift: 62}},
		{api.Quant{Mult: 1 << 28, Shift: 61, Zero: 9}, api.Quant{Mult: 1 << 29, Shift: 62, Zero: 9}},
		{api.Quant{Mult: 1 << 29, Shift: 62, Zero: 9}, api.Quant{Mult: 1 << 29, Shift: 62, Zero: 9}},
		{api.Quant{Mult: 1, Shift: 62, Zero: 9}, api.Quant{Mult: 1, Shift: 62, Zero: 9}},
		{api.Quant{Mult: 1, Shift: 32}, api.Quant{Mult: 1 << 30, Shift: 62}},
		{api.Quant{Mult: 1, Shift: 33}, api.Quant{Mult: 1 << 29, Shift: 62}},
		{api.Quant{Mult: 5, Shift: 60}, api.Quant{Mult: 20, Shift: 62}},
	} {
		if got := ratio.Plain(c.q); got != c.want {
			t.Errorf("Plain(%+v) = %+v, want %+v", c.q, got, c.want)
		}
	}
	for _, q := range wrongScales {
		if got := ratio.Plain(q); got != (api.Quant{}) {
			t.Errorf("Plain(%+v) = %+v, want the zero scale", q, got)
		}
	}
}

// P3.2: it is the same scale, nothing more can be doubled, and what is doubled already stays.
func TestPlainIsTheSame(t *testing.T) {
	eachScale(func(q api.Quant) {
		got := ratio.Plain(q)
		if got.Mult < q.Mult || got.Zero != q.Zero || got.Shift > api.MaxShift || worth(got).Cmp(worth(q)) != 0 {
			t.Fatalf("Plain(%+v) = %+v is another scale", q, got)
		}
		if got.Mult < 1<<30 && got.Shift < api.MaxShift {
			t.Errorf("Plain(%+v) = %+v can be doubled", q, got)
		}
		if q.Mult >= 1<<30 && got != q {
			t.Errorf("Plain(%+v) = %+v is doubled too often", q, got)
		}
		if again := ratio.Plain(got); again != got {
			t.Errorf("Plain(%+v) = %+v", got, again)
		}
	})
}

// P3.3: products of 64 bits would wrap in some of these.
func TestLess(t *testing.T) {
	for _, c := range []struct {
		a, b api.Quant
		want bool
	}{
		{api.Quant{Mult: 1, Shift: 3}, api.Quant{Mult: 1, Shift: 2}, true}, {api.Quant{Mult: 1, Shift: 2}, api.Quant{Mult: 1, Shift: 3}, false},
		{api.Quant{Mult: 2, Shift: 3}, api.Quant{Mult: 1, Shift: 2}, false}, {api.Quant{Mult: 1, Shift: 2}, api.Quant{Mult: 2, Shift: 3}, false},
		{api.Quant{Mult: 3, Shift: 3}, api.Quant{Mult: 1, Shift: 1}, true}, {api.Quant{Mult: 5, Shift: 3}, api.Quant{Mult: 1, Shift: 1}, false},
		{api.Quant{Mult: 1, Shift: 62}, api.Quant{Mult: max32}, true}, {api.Quant{Mult: max32}, api.Quant{Mult: 1, Shift: 62}, false},
		{api.Quant{Mult: 4, Shift: 62}, api.Quant{Mult: 1}, true}, {api.Quant{Mult: 1}, api.Quant{Mult: 4, Shift: 62}, false},
		{api.Quant{Mult: max32, Shift: 62}, api.Quant{Mult: 1}, true}, {api.Quant{Mult: max32, Shift: 31}, api.Quant{Mult: 1}, true}, {api.Quant{Mult: max32, Shift: 30}, api.Quant{Mult: 1}, false},
		{api.Quant{Mult: 1, Shift: 62}, api.Quant{Mult: 4}, true}, {api.Quant{Mult: 4}, api.Quant{Mult: 1, Shift: 62}, false},
		{api.Quant{Mult: 1<<30 - 1, Shift: 61}, api.Quant{Mult: max32, Shift: 62}, true}, {api.Quant{Mult: max32, Shift: 62}, api.Quant{Mult: 1 << 30, Shift: 61}, true},
		{api.Quant{Mult: 1, Shift: 0, Zero: 5}, api.Quant{Mult: 1, Shift: 0, Zero: -5}, false}, {api.Quant{Mult: 1, Shift: 0, Zero: -5}, api.Quant{Mult: 1, Shift: 0, Zero: 5}, false},
	} {
		if got := ratio.Less(c.a, c.b); got != c.want {
			t.Errorf("Less(%+v, %+v) = %t, want %t", c.a, c.b, got, c.want)
		}
	}
	eachScale(func(a api.Quant) {
		eachScale(func(b api.Quant) {
			if want := worth(a).Cmp(worth(b)) < 0; ratio.Less(a, b) != want {
				t.Fatalf("Less(%+v, %+v) = %t, want %t", a, b, !want, want)
			}
		})
	})
}

// P3.3: false, in both orders.
func TestLessWrongScales(t *testing.T) {
	for _, wrong := range wrongScales {
		for _, other := range wrongScales {
			if ratio.Less(wrong, other) {
				t.Errorf("Less(%+v, %+v) = true", wrong, other)
			}
		}
		eachScale(func(q api.Quant) {
			if ratio.Less(wrong, q) || ratio.Less(q, wrong) {
				t.Errorf("%+v and %+v are in order", wrong, q)
			}
		})
	}
}

// P3.3
func TestTimes(t *testing.T) {
	one, least := api.Quant{Mult: 1 << 30, Shift: 30, Zero: 7}, api.Quant{Mult: 1, Shift: 62, Zero: 2}
	for _, c := range []struct {
		a, b, want api.Quant
		err        api.Errno
	}{
		{one, one, api.Quant{Mult: 1 << 29, Shift: 29, Zero: 7}, api.OK},
		{one, api.Quant{Mult: 1, Zero: -3}, api.Quant{Mult: 1 << 29, Shift: 29, Zero: -3}, api.OK},
		{api.Quant{Mult: 1, Zero: -3}, one, api.Quant{Mult: 1 << 29, Shift: 29, Zero: 7}, api.OK},
		{api.Quant{Mult: 3, Shift: 1, Zero: 1}, api.Quant{Mult: 5, Shift: 2, Zero: -128}, api.Quant{Mult: 1006632960, Shift: 29, Zero: -128}, api.OK},
		{api.Quant{Mult: max32, Shift: 31}, api.Quant{Mult: max32, Shift: 31, Zero: 127}, api.Quant{Mult: max32 - 1, Shift: 31, Zero: 127}, api.OK},
		{api.Quant{Mult: max32, Shift: 20}, api.Quant{Mult: 1<<30 + 1, Shift: 40}, api.Quant{Mult: 1 << 30, Shift: 29}, api.OK},
		{api.Quant{Mult: 1 << 30, Shift: 0}, api.Quant{Mult: 1 << 30, Shift: 31}, api.Quant{Mult: 1 << 29, Shift: 0}, api.OK},
		{api.Quant{Mult: 1 << 30, Shift: 0}, api.Quant{Mult: 1 << 30, Shift: 30, Zero: 7}, api.Quant{}, api.ErrRange},
		{api.Quant{Mult: 1 << 30, Shift: 0}, api.Quant{Mult: 1, Zero: 7}, api.Quant{}, api.ErrRange},
		{api.Quant{Mult: max32, Zero: 7}, api.Quant{Mult: max32, Zero: 7}, api.Quant{}, api.ErrRange},
		{api.Quant{Mult: 1 << 30, Shift: 62}, api.Quant{Mult: 1 << 30, Shift: 31, Zero: 8}, api.Quant{Mult: 1 << 29, Shift: 62, Zero: 8}, api.OK},
		{api.Quant{Mult: 1 << 30, Shift: 62}, api.Quant{Mult: 1 << 30, Shift: 32, Zero: 8}, api.Quant{}, api.ErrRange},
		{api.Quant{Mult: 1 << 30, Shift: 47}, api.Quant{Mult: 1 << 30, Shift: 47}, api.Quant{}, api.ErrRange},
		{least, least, api.Quant{}, api.ErrRange},
		{least, one, api.Quant{Mult: 1, Shift: 61, Zero: 7}, api.OK},
		{one, least, api.Quant{Mult: 1, Shift: 61, Zero: 2}, api.OK},
		{least, api.Quant{Mult: 1, Zero: 6}, api.Quant{Mult: 1, Shift: 61, Zero: 6}, api.OK},
		{least, api.Quant{Mult: 1, Shift: 1, Zero: 6}, api.Quant{Mult: 1, Shift: 62, Zero: 6}, api.OK},
		{least, api.Quant{Mult: 1, Shift: 2, Zero: 6}, api.Quant{}, api.ErrRange},
		{api.Quant{Mult: 3, Shift: 62}, one, api.Quant{Mult: 1, Shift: 61, Zero: 7}, api.OK},
		{api.Quant{Mult: 4, Shift: 62}, one, api.Quant{Mult: 2, Shift: 61, Zero: 7}, api.OK},
		{api.Quant{Mult: 7, Shift: 62}, one, api.Quant{Mult: 3, Shift: 61, Zero: 7}, api.OK},
		{api.Quant{Mult: 7, Shift: 60}, one, api.Quant{Mult: 14, Shift: 61, Zero: 7}, api.OK},
	} {
		if got, err := ratio.Times(c.a, c.b); got != c.want || err != c.err {
			t.Errorf("Times(%+v, %+v) = %+v, %d, want %+v, %d", c.a, c.b, got, err, c.want, c.err)
		}
	}
}

// timesFree is Times of valid scales, without limits on the way.
func timesFree(a, b api.Quant) (api.Quant, api.Errno) {
	x, y := ratio.Plain(a), ratio.Plain(b)
	shift := x.Shift + y.Shift - 31
	if shift < 0 || shift > 62 {
		return api.Quant{}, api.ErrRange
	}
	mult := new(big.Int).Mul(big.NewInt(int64(x.Mult)), big.NewInt(int64(y.Mult)))
	mult.Quo(mult, big.NewInt(1<<31))
	if mult.Sign() == 0 {
		mult.SetInt64(1)
	}
	return api.Quant{Mult: int32(mult.Int64()), Shift: shift, Zero: b.Zero}, api.OK
}

// P3.3, against a calculation without limits; where neither is small, the product is not above the exact one, and near it.
func TestTimesOfAll(t *testing.T) {
	eachScale(func(a api.Quant) {
		eachScale(func(b api.Quant) {
			want, wantErr := timesFree(a, b)
			got, err := ratio.Times(a, b)
			if got != want || err != wantErr {
				t.Fatalf("Times(%+v, %+v) = %+v, %d, want %+v, %d", a, b, got, err, want, wantErr)
			}
			if err != api.OK || ratio.Plain(a).Mult < 1<<30 || ratio.Plain(b).Mult < 1<<30 {
				return
			}
			exact := new(big.Rat).Mul(worth(a), worth(b))
			next := worth(api.Quant{Mult: got.Mult, Shift: got.Shift})
			next.Add(next, worth(api.Quant{Mult: 1, Shift: got.Shift}))
			if worth(got).Cmp(exact) > 0 || next.Cmp(exact) <= 0 {
				t.Fatalf("Times(%+v, %+v) = %+v is far off", a, b, got)
			}
		})
	})
}

// P3.3: ErrQuant comes before ErrRange.
func TestTimesWrongScales(t *testing.T) {
	check := func(a, b api.Quant) {
		if got, err := ratio.Times(a, b); got != (api.Quant{}) || err != api.ErrQuant {
			t.Errorf("Times(%+v, %+v) = %+v, %d, want the zero scale, ErrQuant", a, b, got, err)
		}
	}
	for _, wrong := range wrongScales {
		for _, other := range wrongScales {
			check(wrong, other)
		}
		eachScale(func(q api.Quant) {
			check(wrong, q)
			check(q, wrong)
		})
	}
}

// P3.4
func TestLessIsAnOrder(t *testing.T) {
	var scales []api.Quant
	for _, mult := range []int32{1, 2, 3, 1<<30 - 1, 1 << 30, max32} {
		for _, shift := range []int{0, 1, 30, 31, 61, 62} {
			scales = append(scales, api.Quant{Mult: mult, Shift: shift})
		}
	}
	for _, a := range scales {
		for _, b := range scales {
			if ratio.Less(a, b) && ratio.Less(b, a) {
				t.Errorf("%+v and %+v are below each other", a, b)
			}
			if a != b && !ratio.Less(a, b) && !ratio.Less(b, a) && worth(a).Cmp(worth(b)) != 0 {
				t.Errorf("neither of %+v and %+v is below", a, b)
			}
			for _, c := range scales {
				if ratio.Less(a, b) && ratio.Less(b, c) && !ratio.Less(a, c) {
					t.Errorf("%+v, %+v, %+v are not in order", a, b, c)
				}
			}
		}
	}
}

// Of follows the order of the ratios.
func TestOfRises(t *testing.T) {
	for _, den := range terms {
		for i := range len(terms) - 1 {
			low, _ := ratio.Of(terms[i], den)
			high, _ := ratio.Of(terms[i+1], den)
			if ratio.Less(high, low) {
				t.Errorf("Of falls from %d to %d, by %d", terms[i], terms[i+1], den)
			}
		}
	}
}
