package four_test

import (
	"math"
	"math/big"
	"testing"

	"stepwell/four"
)

// most is the greatest part for which results are specified.
const most = 1 << 50

// pair is the parts of a number.
type pair struct{ re, im int64 }

func numbers(l [4]pair) [4]complex128 {
	var c [4]complex128
	for k, v := range l {
		c[k] = complex(float64(v.re), float64(v.im))
	}
	return c
}

// rows visits rows of numbers, with both limits of 16 bits at all positions.
func rows(visit func(l [4]int16)) {
	some := []int16{math.MinInt16, math.MinInt16 + 1, -300, -1, 0, 1, 2, math.MaxInt16}
	for i := range 8 * 8 * 8 * 8 {
		visit([4]int16{some[i%8], some[i/8%8], some[i/64%8], some[i/512]})
	}
}

// few is rows of which all pairs can be tried.
func few() [][4]int16 {
	l := [][4]int16{{}, {1, 0, 0, 0}, {0, 1, 0, 0}, {0, 0, 1, 0}, {0, 0, 0, 1}, {1, 2, 3, 4}, {-5, 7, 1000, -30000}}
	for i := range 16 {
		var row [4]int16
		for j := range row {
			row[j] = []int16{math.MinInt16, math.MaxInt16}[i>>j&1]
		}
		l = append(l, row)
	}
	return l
}

// pairs is numbers whose parts are as great as they may be, and others.
func pairs() []pair {
	var l []pair
	some := []int64{-most, 1 - most, -1 << 25, -1<<25 - 1, -6, -5, -1, 0, 1, 3, 7, 1<<24 + 1, 1<<25 - 1, 1 << 25, 1 << 40, most - 1, most}
	for _, re := range some {
		for _, im := range some {
			l = append(l, pair{re, im})
		}
	}
	return l
}

// transformed is the four sums, written out.
func transformed(l [4]int16) [4]pair {
	a, b, c, d := int64(l[0]), int64(l[1]), int64(l[2]), int64(l[3])
	return [4]pair{{a + b + c + d, 0}, {a - c, d - b}, {a - b + c - d, 0}, {a - c, b - d}}
}

// restored is the four numbers, written out.
func restored(c [4]pair) [4]int64 {
	return [4]int64{
		(c[0].re + c[1].re + c[2].re + c[3].re) / 4,
		(c[0].re - c[1].im - c[2].re + c[3].im) / 4,
		(c[0].re - c[1].re + c[2].re - c[3].re) / 4,
		(c[0].re + c[1].im - c[2].re - c[3].im) / 4,
	}
}

// product is the product of two numbers of any size, and whether the result is specified.
func product(a, b pair) (pair, bool) {
	times := func(a, b int64) *big.Int {
		return new(big.Int).Mul(big.NewInt(a), big.NewInt(b))
	}
	re := new(big.Int).Sub(times(a.re, b.re), times(a.im, b.im))
	im := new(big.Int).Add(times(a.re, b.im), times(a.im, b.re))
	bound := big.NewInt(most)
	return pair{re.Int64(), im.Int64()}, re.CmpAbs(bound) <= 0 && im.CmpAbs(bound) <= 0
}

func check(t *testing.T, call string, got [4]complex128, want [4]pair) {
	t.Helper()
	if got != numbers(want) {
		t.Fatalf("%s = %v, want %v", call, got, want)
	}
}

func checkBack(t *testing.T, c [4]complex128, want [4]int64) {
	t.Helper()
	if got := four.Back(c); got != want {
		t.Fatalf("Back(%v) = %d, want %d", c, got, want)
	}
}

// P14.1: numbers written out.
func TestOfByHand(t *testing.T) {
	check(t, "Of 1, 2, 3, 4", four.Of([4]int16{1, 2, 3, 4}), [4]pair{{10, 0}, {-2, 2}, {-2, 0}, {-2, -2}})
	check(t, "Of 1 at position 0", four.Of([4]int16{1, 0, 0, 0}), [4]pair{{1, 0}, {1, 0}, {1, 0}, {1, 0}})
	check(t, "Of 1 at position 1", four.Of([4]int16{0, 1, 0, 0}), [4]pair{{1, 0}, {0, -1}, {-1, 0}, {0, 1}})
	check(t, "Of 1 at position 2", four.Of([4]int16{0, 0, 1, 0}), [4]pair{{1, 0}, {-1, 0}, {1, 0}, {-1, 0}})
	check(t, "Of 1 at position 3", four.Of([4]int16{0, 0, 0, 1}), [4]pair{{1, 0}, {0, 1}, {-1, 0}, {0, -1}})
	check(t, "Of the least numbers", four.Of([4]int16{-32768, -32768, -32768, -32768}), [4]pair{{-131072, 0}, {}, {}, {}})
	check(t, "Of limits", four.Of([4]int16{-32768, 32767, 32767, -32768}), [4]pair{{-2, 0}, {-65535, -65535}, {0, 0}, {-65535, 65535}})
	check(t, "Of none", four.Of([4]int16{}), [4]pair{})
}

// P14.1
func TestOfAndParts(t *testing.T) {
	rows(func(l [4]int16) {
		want := transformed(l)
		check(t, "Of", four.Of(l), want)
		re, im := four.Parts(l)
		for k, v := range want {
			if int64(re[k]) != v.re || int64(im[k]) != v.im {
				t.Fatalf("Parts(%d) = %d, %d, want %v", l, re, im, want)
			}
		}
	})
}

// P14.2: numbers written out.
func TestByHand(t *testing.T) {
	a, b := [4]pair{{1, 2}, {3, -4}, {0, 5}, {-6, 0}}, [4]pair{{7, 1}, {-2, 1}, {0, 3}, {4, -9}}
	check(t, "Times", four.Times(numbers(a), numbers(b)), [4]pair{{5, 15}, {-2, 11}, {-15, 0}, {-24, 54}})
	check(t, "Plus", four.Plus(numbers(a), numbers(b)), [4]pair{{8, 3}, {1, -3}, {0, 8}, {-2, -9}})

	checkBack(t, numbers([4]pair{{10, 0}, {-2, 2}, {-2, 0}, {-2, -2}}), [4]int64{1, 2, 3, 4})
	// Quotients are truncated on both sides of 0.
	for sum, want := range map[int64]int64{3: 0, 4: 1, 5: 1, 7: 1, 8: 2, -3: 0, -4: -1, -5: -1, -7: -1, -8: -2} {
		checkBack(t, numbers([4]pair{{sum, 0}}), [4]int64{want, want, want, want})
	}
	// Where a part goes: the imaginary ones turn into the result.
	checkBack(t, numbers([4]pair{{0, 40}}), [4]int64{})
	checkBack(t, numbers([4]pair{1: {4, 8}}), [4]int64{1, -2, -1, 2})
	checkBack(t, numbers([4]pair{2: {4, 8}}), [4]int64{1, -1, 1, -1})
	checkBack(t, numbers([4]pair{3: {4, 8}}), [4]int64{1, 2, -1, -2})
}

// P14.2: parts up to the greatest ones, at all positions.
func TestGreatParts(t *testing.T) {
	specified := 0
	all := pairs()
	for i, v := range all {
		for j, w := range all {
			a, b := [4]pair{{1, 2}, {3, 4}, {5, 6}, {7, 8}}, [4]pair{{1, 0}, {1, 0}, {1, 0}, {1, 0}}
			k := (i + j) % 4
			a[k], b[k] = v, w
			sums, products := a, a
			for at := range sums {
				sums[at] = pair{a[at].re + b[at].re, a[at].im + b[at].im}
			}
			check(t, "Plus", four.Plus(numbers(a), numbers(b)), sums)
			var known bool
			if products[k], known = product(v, w); known {
				specified++
				check(t, "Times", four.Times(numbers(a), numbers(b)), products)
			}
			both := [4]pair{v, w, all[(i*j+7)%len(all)], all[(i+j)%len(all)]}
			checkBack(t, numbers(both), restored(both))
		}
	}
	if specified < len(all) {
		t.Errorf("only %d products are specified", specified)
	}
}

// P14.3
func TestBackOfOf(t *testing.T) {
	rows(func(l [4]int16) {
		checkBack(t, four.Of(l), [4]int64{int64(l[0]), int64(l[1]), int64(l[2]), int64(l[3])})
	})
}

// around is for each position the sum of all products of numbers whose positions add up to it, or to four more.
func around(a, b [4]int16) [4]int64 {
	var sums [4]int64
	for i, v := range a {
		for j, w := range b {
			sums[(i+j)%4] += int64(v) * int64(w)
		}
	}
	return sums
}

// P14.4, P14.2: products and sums of transforms are those of the rows.
func TestTimesOfTransforms(t *testing.T) {
	checkBack(t, four.Times(four.Of([4]int16{1, 2, 0, 0}), four.Of([4]int16{3, 0, 0, 5})), [4]int64{13, 6, 0, 5})
	for _, a := range few() {
		for _, b := range few() {
			one := around(a, b)
			checkBack(t, four.Times(four.Of(a), four.Of(b)), one)
			for _, c := range few() {
				two := around(b, c)
				sum := four.Plus(four.Times(four.Of(a), four.Of(b)), four.Times(four.Of(b), four.Of(c)))
				checkBack(t, sum, [4]int64{one[0] + two[0], one[1] + two[1], one[2] + two[2], one[3] + two[3]})
			}
		}
	}
	// The transform of what is still a row.
	for i := range 4 {
		for j := range 4 {
			var a, b, c [4]int16
			a[i], b[j], c[(i+j)%4] = 100, -300, -30000
			check(t, "Times", four.Times(four.Of(a), four.Of(b)), transformed(c))
		}
	}
}

// P1: numbers for which nothing is specified end the calls too.
func TestNoPanic(t *testing.T) {
	var wrong []complex128
	for _, re := range []float64{0, 0.5, 1 << 53, 1e300, math.MaxFloat64, math.Inf(1), math.Inf(-1), math.NaN()} {
		for _, im := range []float64{0, -0.5, -1 << 63, -1e300, math.Inf(-1), math.NaN()} {
			wrong = append(wrong, complex(re, im))
		}
	}
	for i, v := range wrong {
		for _, w := range wrong {
			a, b := [4]complex128{v, w, v, wrong[0]}, [4]complex128{w, v, wrong[i/2], w}
			four.Times(a, b)
			four.Plus(a, b)
			four.Back(a)
		}
	}
}
