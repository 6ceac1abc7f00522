package sat_test

import (
	"math"
	"math/big"
	"slices"
	"testing"

	"stepwell/sat"
)

const (
	minInt = math.MinInt64
	maxInt = math.MaxInt64
)

// edges32 and edges64 are numbers at and beside all limits that sums and products may cross.
var edges32 = []int32{
	math.MinInt32, math.MinInt32 + 1, math.MinInt32 / 2, -65537, -65536, -46341, -46340, -32769, -32768, -129, -128, -3, -2, -1,
	0, 1, 2, 3, 127, 128, 32767, 32768, 46340, 46341, 65535, 65536, 1 << 30, math.MaxInt32/2 + 1, math.MaxInt32 - 1, math.MaxInt32,
}

var edges64 = []int{
	minInt, minInt + 1, minInt + 2, -maxInt/3 - 1, minInt / 2, minInt/2 - 1, minInt/2 + 1, -4294967297, -4294967296, -3037000500, -3037000499,
	math.MinInt32 - 1, math.MinInt32, -129, -128, -3, -2, -1, 0, 1, 2, 3, 127, 128,
	math.MaxInt32, math.MaxInt32 + 1, 3037000499, 3037000500, 4294967295, 4294967296, 4294967297,
	1<<62 - 1, 1 << 62, 1<<62 + 1, maxInt / 3, maxInt/3 + 1, 0x5555555555555555, maxInt - 2, maxInt - 1, maxInt,
}

// nearest is v, or the limit nearest to it.
func nearest(v, lo, hi *big.Int) int64 {
	if v.Cmp(lo) < 0 {
		return lo.Int64()
	}
	if v.Cmp(hi) > 0 {
		return hi.Int64()
	}
	return v.Int64()
}

func nearest8(v *big.Int) int8 {
	return int8(nearest(v, big.NewInt(-128), big.NewInt(127)))
}

func nearest32(v *big.Int) int32 {
	return int32(nearest(v, big.NewInt(-1<<31), big.NewInt(1<<31-1)))
}

// checked is a number of 64 bits and true, or 0 and false.
func checked(v *big.Int) (int, bool) {
	if !v.IsInt64() {
		return 0, false
	}
	return int(v.Int64()), true
}

// each8 visits all pairs of numbers of 8 bits.
func each8(visit func(a, b int8)) {
	for a := -128; a <= 127; a++ {
		for b := -128; b <= 127; b++ {
			visit(int8(a), int8(b))
		}
	}
}

// P1.1
func TestAdd8(t *testing.T) {
	for _, c := range [][3]int8{
		{0, 0, 0}, {5, -7, -2}, {100, 27, 127}, {100, 28, 127}, {100, 100, 127}, {127, 127, 127},
		{-100, -28, -128}, {-100, -29, -128}, {-128, -1, -128}, {-128, -128, -128}, {127, -128, -1},
	} {
		if got := sat.Add8(c[0], c[1]); got != c[2] {
			t.Errorf("Add8(%d, %d) = %d, want %d", c[0], c[1], got, c[2])
		}
	}
	each8(func(a, b int8) {
		want := nearest8(big.NewInt(int64(a) + int64(b)))
		if got := sat.Add8(a, b); got != want {
			t.Fatalf("Add8(%d, %d) = %d, want %d", a, b, got, want)
		}
	})
}

// P1.1
func TestSub8(t *testing.T) {
	for _, c := range [][3]int8{
		{0, 0, 0}, {5, 7, -2}, {7, 5, 2}, {-100, 28, -128}, {-100, 29, -128}, {-100, 100, -128},
		{100, -27, 127}, {100, -28, 127}, {0, -128, 127}, {-1, -128, 127}, {-128, -128, 0}, {127, -128, 127}, {-128, 127, -128},
	} {
		if got := sat.Sub8(c[0], c[1]); got != c[2] {
			t.Errorf("Sub8(%d, %d) = %d, want %d", c[0], c[1], got, c[2])
		}
	}
	each8(func(a, b int8) {
		want := nearest8(big.NewInt(int64(a) - int64(b)))
		if got := sat.Sub8(a, b); got != want {
			t.Fatalf("Sub8(%d, %d) = %d, want %d", a, b, got, want)
		}
	})
}

// P1.1: numbers that would be others if they were cut to 8 or to 32 bits are among these.
func TestClamp(t *testing.T) {
	for _, c := range []struct {
		v            int64
		lo, hi, want int8
	}{
		{5, -10, 10, 5}, {-10, -10, 10, -10}, {10, -10, 10, 10}, {-11, -10, 10, -10}, {11, -10, 10, 10},
		{127, -128, 127, 127}, {128, -128, 127, 127}, {-128, -128, 127, -128}, {-129, -128, 127, -128},
		{256, -10, 10, 10}, {-256, -10, 10, -10}, {261, -10, 10, 10}, {1 << 32, -10, 10, 10}, {-1 << 32, -10, 10, -10},
		{minInt, -10, 10, -10}, {maxInt, -10, 10, 10}, {0, 3, 5, 3}, {0, -5, -3, -3}, {7, 4, 4, 4}, {1, 4, 4, 4},
	} {
		if got := sat.Clamp(c.v, c.lo, c.hi); got != c.want {
			t.Errorf("Clamp(%d, %d, %d) = %d, want %d", c.v, c.lo, c.hi, got, c.want)
		}
	}
	far := []int64{minInt, minInt + 128, -1<<32 - 1, -1 << 32, -1 << 31, -256, -255, 255, 256, 1 << 31, 1 << 32, 1<<32 + 1, maxInt - 127, maxInt}
	each8(func(lo, hi int8) {
		if lo > hi {
			return
		}
		for _, v := range slices.Concat(far, []int64{int64(lo) - 1, int64(lo), int64(lo) + 1, 0, int64(hi) - 1, int64(hi), int64(hi) + 1}) {
			want := int8(nearest(big.NewInt(v), big.NewInt(int64(lo)), big.NewInt(int64(hi))))
			if got := sat.Clamp(v, lo, hi); got != want {
				t.Fatalf("Clamp(%d, %d, %d) = %d, want %d", v, lo, hi, got, want)
			}
		}
	})
}

// P1.1: lo is asked before hi, also where lo is above hi.
func TestClampExchanged(t *testing.T) {
	for _, c := range []struct {
		v            int64
		lo, hi, want int8
	}{
		{minInt, 10, -10, 10}, {-11, 10, -10, 10}, {-10, 10, -10, 10}, {0, 10, -10, 10}, {9, 10, -10, 10},
		{10, 10, -10, -10}, {11, 10, -10, -10}, {maxInt, 10, -10, -10}, {126, 127, -128, 127}, {127, 127, -128, -128},
	} {
		if got := sat.Clamp(c.v, c.lo, c.hi); got != c.want {
			t.Errorf("Clamp(%d, %d, %d) = %d, want %d", c.v, c.lo, c.hi, got, c.want)
		}
	}
}

// P1.1
func TestAdd32(t *testing.T) {
	for _, c := range [][3]int32{
		{0, 0, 0}, {5, -7, -2}, {math.MaxInt32, 1, math.MaxInt32}, {math.MaxInt32 - 1, 1, math.MaxInt32}, {math.MaxInt32, math.MaxInt32, math.MaxInt32},
		{math.MinInt32, -1, math.MinInt32}, {math.MinInt32 + 1, -1, math.MinInt32}, {math.MinInt32, math.MinInt32, math.MinInt32}, {math.MaxInt32, math.MinInt32, -1},
	} {
		if got := sat.Add32(c[0], c[1]); got != c[2] {
			t.Errorf("Add32(%d, %d) = %d, want %d", c[0], c[1], got, c[2])
		}
	}
	for _, a := range edges32 {
		for _, b := range edges32 {
			want := nearest32(new(big.Int).Add(big.NewInt(int64(a)), big.NewInt(int64(b))))
			if got := sat.Add32(a, b); got != want {
				t.Errorf("Add32(%d, %d) = %d, want %d", a, b, got, want)
			}
		}
	}
}

// P1.1
func TestMul32(t *testing.T) {
	for _, c := range [][3]int32{
		{0, 7, 0}, {-3, 7, -21}, {-3, -7, 21}, {46341, 46341, math.MaxInt32}, {46340, 46340, 2147395600}, {65536, 65536, math.MaxInt32},
		{65536, 32768, math.MaxInt32}, {65536, -32768, math.MinInt32}, {65537, -32768, math.MinInt32}, {-1, math.MinInt32, math.MaxInt32},
		{-1, math.MaxInt32, -math.MaxInt32}, {math.MinInt32, 2, math.MinInt32}, {math.MinInt32, math.MinInt32, math.MaxInt32}, {math.MinInt32, 1, math.MinInt32},
	} {
		if got := sat.Mul32(c[0], c[1]); got != c[2] {
			t.Errorf("Mul32(%d, %d) = %d, want %d", c[0], c[1], got, c[2])
		}
	}
	for _, a := range edges32 {
		for _, b := range edges32 {
			want := nearest32(new(big.Int).Mul(big.NewInt(int64(a)), big.NewInt(int64(b))))
			if got := sat.Mul32(a, b); got != want {
				t.Errorf("Mul32(%d, %d) = %d, want %d", a, b, got, want)
			}
		}
	}
}

type checkedCase struct {
	a, b, want int
	ok         bool
}

// checkTwo holds a checked call against cases, and against a calculation without limits at all edges.
func checkTwo(t *testing.T, name string, call func(a, b int) (int, bool), free func(a, b *big.Int) *big.Int, cases []checkedCase) {
	t.Helper()
	for _, a := range edges64 {
		for _, b := range edges64 {
			want, ok := checked(free(big.NewInt(int64(a)), big.NewInt(int64(b))))
			cases = append(cases, checkedCase{a, b, want, ok})
		}
	}
	for _, c := range cases {
		if got, ok := call(c.a, c.b); got != c.want || ok != c.ok {
			t.Errorf("%s(%d, %d) = %d, %t, want %d, %t", name, c.a, c.b, got, ok, c.want, c.ok)
		}
	}
}

// P1.2
func TestPlus(t *testing.T) {
	free := func(a, b *big.Int) *big.Int { return new(big.Int).Add(a, b) }
	checkTwo(t, "Plus", sat.Plus, free, []checkedCase{
		{2, 3, 5, true}, {-2, -3, -5, true}, {0, 0, 0, true}, {maxInt, 0, maxInt, true}, {maxInt - 1, 1, maxInt, true}, {maxInt, 1, 0, false},
		{1, maxInt, 0, false}, {maxInt, maxInt, 0, false}, {minInt + 1, -1, minInt, true}, {minInt, -1, 0, false}, {-1, minInt, 0, false},
		{minInt, minInt, 0, false}, {maxInt, minInt, -1, true}, {minInt, maxInt, -1, true}, {math.MaxInt32, 1, 1 << 31, true},
	})
}

// P1.2
func TestTimes(t *testing.T) {
	free := func(a, b *big.Int) *big.Int { return new(big.Int).Mul(a, b) }
	checkTwo(t, "Times", sat.Times, free, []checkedCase{
		{2, 3, 6, true}, {-2, 3, -6, true}, {-2, -3, 6, true}, {0, minInt, 0, true}, {minInt, 0, 0, true}, {maxInt, 1, maxInt, true},
		{1 << 62, 2, 0, false}, {-1 << 62, 2, minInt, true}, {2, -1 << 62, minInt, true}, {-1 << 62, -2, 0, false}, {1 << 31, 1 << 32, 0, false},
		{1 << 31, -1 << 32, minInt, true}, {1 << 32, 1 << 32, 0, false}, {1 << 33, 1 << 33, 0, false}, {minInt, 1, minInt, true}, {1, minInt, minInt, true},
		{minInt, -1, 0, false}, {-1, minInt, 0, false}, {maxInt, -1, -maxInt, true}, {minInt, minInt, 0, false}, {maxInt, maxInt, 0, false},
		{3037000499, 3037000499, 9223372030926249001, true}, {3037000500, 3037000500, 0, false}, {maxInt, 0, 0, true},
	})
}

// P1.2: an addition on the way that fails counts, also where the whole would fit.
func TestSum(t *testing.T) {
	for _, c := range []struct {
		l    []int
		want int
		ok   bool
	}{
		{nil, 0, true}, {[]int{}, 0, true}, {[]int{7}, 7, true}, {[]int{-7}, -7, true}, {[]int{0}, 0, true}, {[]int{minInt}, minInt, true}, {[]int{maxInt}, maxInt, true},
		{[]int{1, 2, 3, 4}, 10, true}, {[]int{1, -2, 3, -4, 5}, 3, true}, {[]int{math.MaxInt32, math.MaxInt32, 2}, 1 << 32, true},
		{[]int{maxInt, 1}, 0, false}, {[]int{maxInt, 1, -1}, 0, false}, {[]int{maxInt, -1, 1}, maxInt, true}, {[]int{1, maxInt, -1}, 0, false}, {[]int{-1, 1, maxInt}, maxInt, true},
		{[]int{minInt, -1}, 0, false}, {[]int{minInt, -1, 1}, 0, false}, {[]int{minInt, 1, -1}, minInt, true}, {[]int{-1, minInt, 1}, 0, false},
		{[]int{maxInt, minInt, 1}, 0, true}, {[]int{5, maxInt, 3}, 0, false}, {[]int{5, maxInt, minInt, minInt}, 0, false}, {[]int{2, 2, 2, maxInt}, 0, false},
		{[]int{maxInt, 1, 0, 0}, 0, false}, {[]int{1 << 62, 1 << 62, 1 << 62, 1 << 62}, 0, false},
	} {
		if got, ok := sat.Sum(c.l...); got != c.want || ok != c.ok {
			t.Errorf("Sum(%d) = %d, %t, want %d, %t", c.l, got, ok, c.want, c.ok)
		}
	}
	if got, ok := sat.Sum(); got != 0 || !ok {
		t.Errorf("Sum() = %d, %t, want 0, true", got, ok)
	}
	if got, ok := sat.Sum(1, 20, 300); got != 321 || !ok {
		t.Errorf("Sum(1, 20, 300) = %d, %t, want 321, true", got, ok)
	}
}

// P1.2, with three integers from all edges, against a calculation without limits.
func TestSumOfEdges(t *testing.T) {
	for _, a := range edges64 {
		for _, b := range edges64 {
			first, ok := checked(new(big.Int).Add(big.NewInt(int64(a)), big.NewInt(int64(b))))
			for _, c := range edges64 {
				want, fits := 0, false
				if ok {
					want, fits = checked(new(big.Int).Add(big.NewInt(int64(first)), big.NewInt(int64(c))))
				}
				if got, gotOK := sat.Sum(a, b, c); got != want || gotOK != fits {
					t.Fatalf("Sum(%d, %d, %d) = %d, %t, want %d, %t", a, b, c, got, gotOK, want, fits)
				}
			}
		}
	}
}

// Rule 2: the list that is passed stays as it is, up to its capacity.
func TestSumKeepsItsList(t *testing.T) {
	whole := []int{3, 4, 5, maxInt, 7}
	if got, ok := sat.Sum(whole[:3]...); got != 12 || !ok {
		t.Errorf("Sum of a part = %d, %t, want 12, true", got, ok)
	}
	if got, ok := sat.Sum(whole[:4]...); got != 0 || ok {
		t.Errorf("Sum of a greater part = %d, %t, want 0, false", got, ok)
	}
	if !slices.Equal(whole, []int{3, 4, 5, maxInt, 7}) {
		t.Errorf("the list became %d", whole)
	}
}

// P1.3
func TestInverse(t *testing.T) {
	each8(func(a, b int8) {
		if sum := int(a) + int(b); sum >= -128 && sum <= 127 && sat.Sub8(sat.Add8(a, b), b) != a {
			t.Fatalf("%d + %d - %d is not %d", a, b, b, a)
		}
		if diff := int(a) - int(b); diff >= -128 && diff <= 127 && sat.Add8(sat.Sub8(a, b), b) != a {
			t.Fatalf("%d - %d + %d is not %d", a, b, b, a)
		}
	})
	for _, a := range edges64 {
		for _, b := range edges64 {
			sum, ok := sat.Plus(a, b)
			if !ok || b == minInt {
				continue
			}
			if back, fits := sat.Plus(sum, -b); !fits || back != a {
				t.Errorf("%d + %d - %d = %d, %t", a, b, b, back, fits)
			}
		}
	}
	for _, a := range edges32 {
		for _, b := range edges32 {
			sum := int64(a) + int64(b)
			if sum < math.MinInt32 || sum > math.MaxInt32 || b == math.MinInt32 {
				continue
			}
			if back := sat.Add32(sat.Add32(a, b), -b); back != a {
				t.Errorf("%d + %d - %d = %d", a, b, b, back)
			}
		}
	}
}

// P1.4
func TestMonotonicSums(t *testing.T) {
	each8(func(a, b int8) {
		if a == 127 {
			return
		}
		if sat.Add8(a+1, b) < sat.Add8(a, b) || sat.Add8(b, a+1) < sat.Add8(b, a) {
			t.Fatalf("Add8 falls from %d, with %d", a, b)
		}
		if sat.Sub8(a+1, b) < sat.Sub8(a, b) || sat.Sub8(b, a+1) > sat.Sub8(b, a) {
			t.Fatalf("Sub8 turns at %d, with %d", a, b)
		}
	})
	for i := range len(edges32) - 1 {
		for _, b := range edges32 {
			if sat.Add32(edges32[i+1], b) < sat.Add32(edges32[i], b) || sat.Add32(b, edges32[i+1]) < sat.Add32(b, edges32[i]) {
				t.Errorf("Add32 falls from %d, with %d", edges32[i], b)
			}
		}
	}
	rising := slices.Sorted(slices.Values(edges64))
	for i := range len(rising) - 1 {
		for _, b := range edges64 {
			low, lowOK := sat.Plus(rising[i], b)
			high, highOK := sat.Plus(rising[i+1], b)
			if lowOK && highOK && low >= high {
				t.Errorf("Plus does not rise from %d, with %d", rising[i], b)
			}
		}
	}
}

// P1.4: within limits that are in order.
func TestMonotonicClamp(t *testing.T) {
	for lo := -128; lo <= 127; lo += 15 {
		for hi := lo; hi <= 127; hi += 17 {
			before := sat.Clamp(minInt, int8(lo), int8(hi))
			for v := int64(-600); v <= 600; v++ {
				now := sat.Clamp(v, int8(lo), int8(hi))
				if now < before {
					t.Fatalf("Clamp falls at %d, from %d to %d", v, lo, hi)
				}
				before = now
			}
			if sat.Clamp(maxInt, int8(lo), int8(hi)) < before {
				t.Fatalf("Clamp falls at the end, from %d to %d", lo, hi)
			}
		}
	}
}

// P1 and rule 5: no call panics, whatever it is given, and the same call answers the same.
func TestEveryCallEnds(t *testing.T) {
	for _, a := range edges64 {
		for _, b := range edges64 {
			for _, lo := range []int8{-128, -1, 0, 127} {
				if sat.Clamp(int64(a), lo, int8(b)) != sat.Clamp(int64(a), lo, int8(b)) {
					t.Errorf("Clamp(%d, %d, %d) changes", a, lo, int8(b))
				}
			}
			again := [4]int32{sat.Add32(int32(a), int32(b)), sat.Mul32(int32(a), int32(b)), int32(sat.Add8(int8(a), int8(b))), int32(sat.Sub8(int8(a), int8(b)))}
			if again != [4]int32{sat.Add32(int32(a), int32(b)), sat.Mul32(int32(a), int32(b)), int32(sat.Add8(int8(a), int8(b))), int32(sat.Sub8(int8(a), int8(b)))} {
				t.Errorf("sums of %d and %d change", a, b)
			}
		}
	}
	many := make([]int, 1<<16)
	for i := range many {
		many[i] = 1 << 40
	}
	if got, ok := sat.Sum(many...); got != 1<<56 || !ok {
		t.Errorf("Sum of many = %d, %t", got, ok)
	}
}
