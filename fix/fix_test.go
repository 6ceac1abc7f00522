package fix_test

import (
	"math"
	"math/big"
	"slices"
	"testing"

	"stepwell/api"
	"stepwell/fix"
	"stepwell/sample"
)

const (
	minInt = math.MinInt64
	maxInt = math.MaxInt64
	min32  = math.MinInt32
	max32  = math.MaxInt32
)

var wrongShifts = []int{minInt, -1 << 32, -64, -63, -62, -2, -1, api.MaxShift + 1, 64, 65, 127, 128, 1 << 32, 1<<32 + 1, maxInt}

var accs = []int32{
	min32, min32 + 1, -1 << 30, -1000003, -65536, -1000, -384, -257, -256, -255, -130, -129, -128, -127, -5, -4, -3, -2, -1,
	0, 1, 2, 3, 4, 5, 126, 127, 128, 129, 255, 256, 257, 384, 1000, 65536, 1000003, 1 << 30, max32 - 1, max32,
}

var (
	rightScales = sample.Scales()
	wrongScales = sample.WrongScales()
)

// rounded is v by 2 to the power of shift, without limits: of its two neighbours below and above, the nearer one.
func rounded(v *big.Int, shift int) *big.Int {
	step := new(big.Int).Lsh(big.NewInt(1), uint(shift))
	below, rest := new(big.Int).QuoRem(new(big.Int).Abs(v), step, new(big.Int))
	if rest.Lsh(rest, 1).Cmp(step) >= 0 {
		below.Add(below, big.NewInt(1))
	}
	if v.Sign() < 0 {
		below.Neg(below)
	}
	return below
}

func scaled(acc, mult int32, shift int) *big.Int {
	return rounded(new(big.Int).Mul(big.NewInt(int64(acc)), big.NewInt(int64(mult))), shift)
}

// held is what a valid scale makes of a sum, from lo to hi.
func held(acc int32, q api.Quant, lo, hi int8) int8 {
	v := scaled(acc, q.Mult, q.Shift)
	v.Add(v, big.NewInt(int64(q.Zero)))
	if v.Cmp(big.NewInt(int64(lo))) < 0 {
		return lo
	}
	if v.Cmp(big.NewInt(int64(hi))) > 0 {
		return hi
	}
	return int8(v.Int64())
}

// P2.1: halves on both sides of 0, and the limits of 64 bits.
func TestRound(t *testing.T) {
	for _, c := range []struct {
		v     int64
		shift int
		want  int64
	}{
		{5, 1, 3}, {-5, 1, -3}, {4, 3, 1}, {-4, 3, -1}, {3, 3, 0}, {-3, 3, 0}, {5, 3, 1}, {-5, 3, -1}, {0, 0, 0}, {0, 5, 0}, {0, 62, 0},
		{1, 1, 1}, {-1, 1, -1}, {2, 1, 1}, {-2, 1, -1}, {3, 1, 2}, {-3, 1, -2}, {1, 2, 0}, {-1, 2, 0}, {6, 2, 2}, {-6, 2, -2}, {5, 2, 1}, {-5, 2, -1}, {7, 2, 2}, {-7, 2, -2},
		{7, 0, 7}, {-7, 0, -7}, {maxInt, 0, maxInt}, {minInt, 0, minInt}, {minInt + 1, 0, minInt + 1},
		{maxInt, 1, 1 << 62}, {minInt, 1, -1 << 62}, {minInt + 1, 1, -1 << 62}, {maxInt - 1, 1, 1<<62 - 1},
		{maxInt, 62, 2}, {minInt, 62, -2}, {1 << 62, 62, 1}, {-1 << 62, 62, -1}, {1 << 61, 62, 1}, {-1 << 61, 62, -1}, {1<<61 - 1, 62, 0}, {-1<<61 + 1, 62, 0},
		{3 << 61, 62, 2}, {-3 << 61, 62, -2}, {3<<61 - 1, 62, 1}, {-3<<61 + 1, 62, -1}, {maxInt, 61, 4}, {minInt, 61, -4},
		{1 << 40, 33, 128}, {1<<40 + 1<<32, 33, 129}, {-1<<40 - 1<<32, 33, -129}, {1<<40 + 1<<32 - 1, 33, 128},
	} {
		if got := fix.Round(c.v, c.shift); got != c.want {
			t.Errorf("Round(%d, %d) = %d, want %d", c.v, c.shift, got, c.want)
		}
	}
}

// eachNear visits numbers around all multiples of half a step that are limits of 64 bits, or near 0.
func eachNear(shift int, visit func(v int64)) {
	step := uint64(1) << shift
	for _, base := range []uint64{0, step / 2, step, step + step/2, 2 * step, 3 * step / 2, 1 << 31, 1 << 32, 1 << 62, 1 << 63} {
		for _, by := range []uint64{0, 1, 2, 3} {
			visit(int64(base + by))
			visit(int64(base - by))
			visit(-int64(base + by))
			visit(-int64(base - by))
		}
	}
}

// P2.1, against a calculation without limits.
func TestRoundAtEveryShift(t *testing.T) {
	for shift := 0; shift <= api.MaxShift; shift++ {
		eachNear(shift, func(v int64) {
			want := rounded(big.NewInt(v), shift).Int64()
			if got := fix.Round(v, shift); got != want {
				t.Errorf("Round(%d, %d) = %d, want %d", v, shift, got, want)
			}
		})
	}
}

// P2.1, P2.2: a shift that is not from 0 to MaxShift.
func TestWrongShifts(t *testing.T) {
	for _, shift := range wrongShifts {
		for _, v := range []int64{minInt, -5, -1, 0, 1, 5, 1 << 62, maxInt} {
			if got := fix.Round(v, shift); got != 0 {
				t.Errorf("Round(%d, %d) = %d, want 0", v, shift, got)
			}
		}
		for _, acc := range accs {
			for _, mult := range []int32{min32, -1, 0, 1, max32} {
				if got := fix.Scale(acc, mult, shift); got != 0 {
					t.Errorf("Scale(%d, %d, %d) = %d, want 0", acc, mult, shift, got)
				}
			}
		}
	}
	if fix.Round(3<<61, api.MaxShift) != 2 || fix.Round(3, 0) != 3 {
		t.Error("the first and the last shift are not wrong")
	}
}

// P2.2: Scale takes any Mult; only Right asks for one above 0.
func TestScale(t *testing.T) {
	for _, c := range []struct {
		acc, mult int32
		shift     int
		want      int64
	}{
		{3, 7, 0, 21}, {-3, 7, 0, -21}, {3, -7, 0, -21}, {-3, -7, 0, 21}, {0, 7, 3, 0}, {7, 0, 3, 0}, {3, 7, 1, 11}, {-3, 7, 1, -11}, {3, -7, 1, -11}, {3, 7, 2, 5},
		{11, 1 << 30, 31, 6}, {-11, 1 << 30, 31, -6}, {11, 1 << 30, 30, 11}, {min32, min32, 0, 1 << 62}, {min32, min32, 62, 1}, {min32, max32, 0, -4611686016279904256},
		{max32, max32, 0, 4611686014132420609}, {max32, max32, 62, 1}, {min32, max32, 62, -1}, {min32, 1 << 30, 62, -1}, {max32, 1 << 30, 62, 0}, {min32, 1, 0, min32}, {min32, -1, 0, 1 << 31},
	} {
		if got := fix.Scale(c.acc, c.mult, c.shift); got != c.want {
			t.Errorf("Scale(%d, %d, %d) = %d, want %d", c.acc, c.mult, c.shift, got, c.want)
		}
	}
	for _, acc := range accs {
		for _, mult := range accs {
			for _, shift := range []int{0, 1, 2, 7, 15, 30, 31, 32, 33, 47, 61, 62} {
				want := scaled(acc, mult, shift).Int64()
				if got := fix.Scale(acc, mult, shift); got != want {
					t.Fatalf("Scale(%d, %d, %d) = %d, want %d", acc, mult, shift, got, want)
				}
			}
		}
	}
}

// P2.2
func TestRight(t *testing.T) {
	for _, q := range rightScales {
		if !fix.Right(q) {
			t.Errorf("%+v is valid", q)
		}
	}
	for _, q := range wrongScales {
		if fix.Right(q) {
			t.Errorf("%+v is not valid", q)
		}
	}
	for _, shift := range wrongShifts {
		if fix.Right(api.Quant{Mult: 1, Shift: shift}) {
			t.Errorf("a Shift of %d is not valid", shift)
		}
	}
	for shift := 0; shift <= api.MaxShift; shift++ {
		for _, mult := range accs {
			for _, zero := range []int8{-128, -1, 0, 127} {
				q := api.Quant{Mult: mult, Shift: shift, Zero: zero}
				if fix.Right(q) != (mult > 0) {
					t.Errorf("Right(%+v) = %t", q, fix.Right(q))
				}
			}
		}
	}
}

// P2.3: Zero is added before the limits are asked, and no sum is cut to fewer bits first.
func TestPutAndHeld(t *testing.T) {
	plain, half := api.Quant{Mult: 1, Zero: 3}, api.Quant{Mult: 1 << 30, Shift: 31, Zero: 3}
	great := api.Quant{Mult: max32, Zero: 1}
	for _, c := range []struct {
		acc          int32
		q            api.Quant
		lo, hi, want int8
	}{
		{11, half, -128, 127, 9}, {-11, half, -128, 127, -3}, {1 << 20, half, -128, 127, 127}, {-1 << 20, half, -128, 127, -128},
		{0, plain, -128, 127, 3}, {124, plain, -128, 127, 127}, {125, plain, -128, 127, 127}, {-131, plain, -128, 127, -128}, {-132, plain, -128, 127, -128},
		{123, plain, -128, 127, 126}, {-130, plain, -128, 127, -127}, {256, plain, -128, 127, 127}, {-256, plain, -128, 127, -128},
		{1, plain, 0, 5, 4}, {2, plain, 0, 5, 5}, {3, plain, 0, 5, 5}, {-3, plain, 0, 5, 0}, {-4, plain, 0, 5, 0}, {-3, plain, -5, 5, 0}, {-9, plain, -5, 5, -5},
		{0, plain, 5, 9, 5}, {0, plain, -9, -5, -5}, {7, plain, 4, 4, 4},
		{max32, great, -128, 127, 127}, {min32, great, -128, 127, -128}, {max32, plain, -7, 7, 7}, {min32, plain, -7, 7, -7}, {1 << 16, great, -7, 7, 7}, {-1 << 16, great, -7, 7, -7},
	} {
		if got := fix.Held(c.acc, c.q, c.lo, c.hi); got != c.want {
			t.Errorf("Held(%d, %+v, %d, %d) = %d, want %d", c.acc, c.q, c.lo, c.hi, got, c.want)
		}
		if got := fix.Put(c.acc, c.q); c.lo == -128 && c.hi == 127 && got != c.want {
			t.Errorf("Put(%d, %+v) = %d, want %d", c.acc, c.q, got, c.want)
		}
	}
}

var limits = [][2]int8{{-128, 127}, {0, 127}, {-128, 0}, {-5, 5}, {3, 9}, {-9, -3}, {4, 4}, {127, 127}, {-128, -128}}

// P2.3, against a calculation without limits.
func TestHeldAtTheEdges(t *testing.T) {
	for _, q := range rightScales {
		for _, acc := range accs {
			if got, want := fix.Put(acc, q), held(acc, q, -128, 127); got != want {
				t.Errorf("Put(%d, %+v) = %d, want %d", acc, q, got, want)
			}
			for _, l := range limits {
				if got, want := fix.Held(acc, q, l[0], l[1]), held(acc, q, l[0], l[1]); got != want {
					t.Errorf("Held(%d, %+v, %d, %d) = %d, want %d", acc, q, l[0], l[1], got, want)
				}
			}
		}
	}
}

// P2.3: limits that are exchanged are asked in the order in which Clamp asks them.
func TestHeldExchanged(t *testing.T) {
	q := api.Quant{Mult: 1}
	for _, c := range []struct {
		acc  int32
		want int8
	}{{min32, 10}, {-11, 10}, {0, 10}, {9, 10}, {10, -10}, {11, -10}, {max32, -10}} {
		if got := fix.Held(c.acc, q, 10, -10); got != c.want {
			t.Errorf("Held(%d) from 10 to -10 = %d, want %d", c.acc, got, c.want)
		}
		if got := fix.All([]int32{c.acc}, q, 10, -10); !slices.Equal(got, []int8{c.want}) {
			t.Errorf("All(%d) from 10 to -10 = %d, want %d", c.acc, got, c.want)
		}
	}
}

// P2.3: 0 also where 0 is not from lo to hi, and whatever Zero is.
func TestWrongScales(t *testing.T) {
	for _, q := range wrongScales {
		for _, acc := range accs {
			if got := fix.Put(acc, q); got != 0 {
				t.Errorf("Put(%d, %+v) = %d, want 0", acc, q, got)
			}
			for _, l := range [][2]int8{{-128, 127}, {3, 9}, {-9, -3}, {9, 3}} {
				if got := fix.Held(acc, q, l[0], l[1]); got != 0 {
					t.Errorf("Held(%d, %+v, %d, %d) = %d, want 0", acc, q, l[0], l[1], got)
				}
			}
		}
		for _, l := range [][]int32{nil, {}, {0}, {1, 2, 3}} {
			if got := fix.All(l, q, -128, 127); len(got) != 0 {
				t.Errorf("All(%d, %+v) = %d, want none", l, q, got)
			}
		}
	}
}

// P2.3
func TestAll(t *testing.T) {
	half := api.Quant{Mult: 1 << 30, Shift: 31, Zero: 3}
	for _, c := range []struct {
		l      []int32
		lo, hi int8
		want   []int8
	}{
		{[]int32{0, 9, -9}, 0, 5, []int8{3, 5, 0}}, {[]int32{11, -11, 1 << 20, min32, max32}, -128, 127, []int8{9, -3, 127, -128, 127}},
		{[]int32{7}, -128, 127, []int8{7}}, {nil, -128, 127, nil}, {[]int32{}, -128, 127, nil}, {[]int32{1, 1, 1}, 9, 9, []int8{9, 9, 9}},
	} {
		if got := fix.All(c.l, half, c.lo, c.hi); !slices.Equal(got, c.want) {
			t.Errorf("All(%d, %d, %d) = %d, want %d", c.l, c.lo, c.hi, got, c.want)
		}
	}
	for _, q := range rightScales {
		for _, l := range limits {
			got := fix.All(accs, q, l[0], l[1])
			if len(got) != len(accs) {
				t.Fatalf("All of %d sums has %d numbers", len(accs), len(got))
			}
			for i, acc := range accs {
				if want := held(acc, q, l[0], l[1]); got[i] != want {
					t.Errorf("All(.. %d .., %+v, %d, %d) = %d, want %d", acc, q, l[0], l[1], got[i], want)
				}
			}
		}
	}
}

// Rule 2: the list stays as it is up to its capacity, and no two results share anything.
func TestAllKeepsItsList(t *testing.T) {
	whole := []int32{5, 6, 7, 8, 9}
	part := whole[1:3]
	first := fix.All(part, api.Quant{Mult: 1}, -128, 127)
	second := fix.All(part, api.Quant{Mult: 1}, -128, 127)
	fix.All(part, api.Quant{}, -128, 127)
	first[0] = 99
	_ = append(first[:1], 98)
	if !slices.Equal(second, []int8{6, 7}) {
		t.Errorf("the second result became %d", second)
	}
	if third := fix.All(part, api.Quant{Mult: 1}, -128, 127); !slices.Equal(third, []int8{6, 7}) {
		t.Errorf("the third result is %d", third)
	}
	if !slices.Equal(whole, []int32{5, 6, 7, 8, 9}) {
		t.Errorf("the list became %d", whole)
	}
}

// P2.4
func TestMonotonic(t *testing.T) {
	for _, q := range rightScales {
		for _, l := range limits {
			put, kept := int8(-128), l[0]
			visit := func(acc int32) {
				nextPut, nextKept := fix.Put(acc, q), fix.Held(acc, q, l[0], l[1])
				if nextPut < put || nextKept < kept {
					t.Fatalf("%+v falls at %d, from %d to %d", q, acc, l[0], l[1])
				}
				put, kept = nextPut, nextKept
			}
			visit(min32)
			for acc := int32(-700); acc <= 700; acc++ {
				visit(acc)
			}
			visit(max32)
		}
	}
}

// P2.5
func TestRoundIsNearAndOdd(t *testing.T) {
	for shift := 0; shift <= api.MaxShift; shift++ {
		step := new(big.Int).Lsh(big.NewInt(1), uint(shift))
		eachNear(shift, func(v int64) {
			got := fix.Round(v, shift)
			off := new(big.Int).Mul(big.NewInt(got), step)
			off.Sub(off, big.NewInt(v)).Abs(off).Lsh(off, 1)
			if off.Cmp(step) > 0 {
				t.Errorf("Round(%d, %d) = %d is off by more than half a step", v, shift, got)
			}
			if v != minInt && fix.Round(-v, shift) != -got {
				t.Errorf("Round(%d, %d) = %d, but %d of the negative", v, shift, got, fix.Round(-v, shift))
			}
		})
	}
}

// P1 and rule 5: no call panics, whatever it is given, and the same call answers the same.
func TestEveryCallEnds(t *testing.T) {
	for _, shift := range slices.Concat(wrongShifts, []int{0, 1, 31, 62}) {
		for _, acc := range accs {
			for _, mult := range accs {
				q := api.Quant{Mult: mult, Shift: shift, Zero: int8(acc)}
				lo, hi := int8(mult), int8(acc)
				if fix.Round(int64(acc)<<32, shift) != fix.Round(int64(acc)<<32, shift) || fix.Scale(acc, mult, shift) != fix.Scale(acc, mult, shift) {
					t.Errorf("a scale of %d by %d, %d changes", acc, mult, shift)
				}
				if fix.Put(acc, q) != fix.Put(acc, q) || fix.Held(acc, q, lo, hi) != fix.Held(acc, q, lo, hi) {
					t.Errorf("%d by %+v changes", acc, q)
				}
				if !slices.Equal(fix.All([]int32{acc, mult}, q, lo, hi), fix.All([]int32{acc, mult}, q, lo, hi)) {
					t.Errorf("all of %d and %d by %+v change", acc, mult, q)
				}
			}
		}
	}
}
