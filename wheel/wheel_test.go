package wheel_test

import (
	"math"
	"slices"
	"testing"

	"stepwell/sample"
	"stepwell/wheel"
)

// numbers is numbers of which neighbours differ, with both limits of 16 bits among many.
func numbers(size, start int) []int16 {
	var l []int16
	for i := range size {
		l = append(l, []int16{math.MinInt16, 300, -1, 7, math.MaxInt16, 0, -20000}[(i+start)%7]+int16(i/7))
	}
	return l
}

// weights is weights of which neighbours differ, with both limits of 8 bits among many.
func weights(many int) [][3]int8 {
	var l [][3]int8
	for i := range many {
		l = append(l, [3]int8{int8(i*37 - 128), int8(127 - i*53), int8(i*11 + 5)})
	}
	return l
}

// few is weights at their limits, and others.
func few() [][3]int8 {
	var l [][3]int8
	some := []int8{math.MinInt8, -1, 0, 3, math.MaxInt8}
	for i := range 5 * 5 * 5 {
		l = append(l, [3]int8{some[i%5], some[i/5%5], some[i/25]})
	}
	return l
}

// many is so many rows, equally long.
func many(rows, long int) [][]int16 {
	var l [][]int16
	for i := range rows {
		l = append(l, numbers(long, i))
	}
	return l
}

// slid is the sums, product by product.
func slid(x []int16, w [3]int8) []int64 {
	var sums []int64
	for i := 0; i+2 < len(x); i++ {
		sums = append(sums, int64(x[i])*int64(w[0])+int64(x[i+1])*int64(w[1])+int64(x[i+2])*int64(w[2]))
	}
	return sums
}

// together is the sums of all rows, product by product.
func together(x [][]int16, w [][3]int8) []int64 {
	sums := make([]int64, max(0, len(x[0])-2))
	for i, row := range x {
		for j, v := range slid(row, w[i]) {
			sums[j] += v
		}
	}
	return sums
}

func check(t *testing.T, call string, got, want []int64) {
	t.Helper()
	if !slices.Equal(got, want) {
		t.Fatalf("%s = %d, want %d", call, got, want)
	}
}

func checkTwo(t *testing.T, x [4]int16, w [3]int8, want [2]int64) {
	t.Helper()
	if got := wheel.Two(x, w); got != want {
		t.Fatalf("Two(%d, %d) = %d, want %d", x, w, got, want)
	}
}

// P15.1: numbers written out.
func TestTwoByHand(t *testing.T) {
	checkTwo(t, [4]int16{1, 2, 3, 4}, [3]int8{1, 10, 100}, [2]int64{321, 432})
	checkTwo(t, [4]int16{1, 2, 3, 4}, [3]int8{1, 0, 0}, [2]int64{1, 2})
	checkTwo(t, [4]int16{1, 2, 3, 4}, [3]int8{0, 1, 0}, [2]int64{2, 3})
	checkTwo(t, [4]int16{1, 2, 3, 4}, [3]int8{0, 0, -1}, [2]int64{-3, -4})
	checkTwo(t, [4]int16{1, 2, 3, 4}, [3]int8{}, [2]int64{})
	const least, most = math.MinInt16, math.MaxInt16
	checkTwo(t, [4]int16{least, least, least, least}, [3]int8{-128, -128, -128}, [2]int64{12582912, 12582912})
	checkTwo(t, [4]int16{most, most, most, most}, [3]int8{-128, -128, -128}, [2]int64{-12582528, -12582528})
	checkTwo(t, [4]int16{least, most, least, most}, [3]int8{127, -128, 127}, [2]int64{-12517248, 12517122})
}

// P15.1: both limits of 16 bits at all positions.
func TestTwo(t *testing.T) {
	some := []int16{math.MinInt16, math.MinInt16 + 1, -3, 0, 1, math.MaxInt16}
	for i := range 6 * 6 * 6 * 6 {
		x := [4]int16{some[i%6], some[i/6%6], some[i/36%6], some[i/216]}
		for _, w := range few() {
			checkTwo(t, x, w, [2]int64(slid(x[:], w)))
		}
	}
}

// P15.1: numbers written out, and rows that are too short.
func TestSlideByHand(t *testing.T) {
	check(t, "Slide", wheel.Slide([]int16{1, 2, 3}, [3]int8{1, 10, 100}), []int64{321})
	check(t, "Slide", wheel.Slide([]int16{1, 2, 3, 4}, [3]int8{1, 10, 100}), []int64{321, 432})
	check(t, "Slide", wheel.Slide([]int16{1, 2, 3, 4, 5}, [3]int8{1, 10, 100}), []int64{321, 432, 543})
	check(t, "Slide", wheel.Slide([]int16{1, 2, 3, 4, 5, -6}, [3]int8{1, 10, 100}), []int64{321, 432, 543, -546})
	for _, short := range [][]int16{nil, {}, {1}, {1, 2}} {
		if got := wheel.Slide(short, [3]int8{1, 1, 1}); got != nil {
			t.Errorf("Slide(%d) = %d, want none", short, got)
		}
	}
}

// P15.1: rows of all lengths; each position is the first of Two.
func TestSlide(t *testing.T) {
	for _, w := range few() {
		for long := range 40 {
			x := numbers(long, long)
			got := wheel.Slide(x, w)
			check(t, "Slide", got, slid(x, w))
			for i := 0; i+4 <= long; i++ {
				checkTwo(t, [4]int16(x[i:]), w, [2]int64(got[i:]))
			}
		}
	}
	long := numbers(10001, 0)
	check(t, "Slide of many", wheel.Slide(long, [3]int8{-128, 127, -3}), slid(long, [3]int8{-128, 127, -3}))
}

// P15.2: numbers written out.
func TestManyByHand(t *testing.T) {
	check(t, "Many", wheel.Many([][]int16{{1, 2, 3}, {1, 1, 1}}, [][3]int8{{1, 1, 1}, {1, 2, 3}}), []int64{12})
	check(t, "Many", wheel.Many([][]int16{{1, 2, 3, 4, 5}, {5, 4, 3, 2, -1}}, [][3]int8{{1, 10, 100}, {1, 0, -1}}), []int64{323, 434, 547})
	check(t, "Many of one", wheel.Many([][]int16{{1, 2, 3, 4}}, [][3]int8{{1, 10, 100}}), []int64{321, 432})
}

// P15.2: as many rows as there may be, of all lengths, and sums as great as they become.
func TestMany(t *testing.T) {
	for _, rows := range []int{1, 2, 3, 64, 1023, 1024} {
		for _, long := range []int{0, 1, 2, 3, 4, 5, 6, 18, 19} {
			x, w := many(rows, long), weights(rows)
			check(t, "Many", wheel.Many(x, w), together(x, w))
		}
	}
	for _, v := range []int16{math.MinInt16, math.MaxInt16} {
		for _, weight := range []int8{math.MinInt8, math.MaxInt8} {
			x := slices.Repeat([][]int16{{v, v, v, v, v}}, 1024)
			w := slices.Repeat([][3]int8{{weight, weight, weight}}, 1024)
			sum := 3 * 1024 * int64(v) * int64(weight)
			check(t, "Many of limits", wheel.Many(x, w), []int64{sum, sum, sum})
		}
	}
}

// P15.2: no rows, too many, others than weights, and rows that are not equally long.
func TestManyOfNone(t *testing.T) {
	none := func(call string, x [][]int16, w [][3]int8) {
		t.Helper()
		if got := wheel.Many(x, w); len(got) != 0 {
			t.Errorf("Many of %s has %d numbers", call, len(got))
		}
	}
	none("nothing", nil, nil)
	none("no rows", [][]int16{}, [][3]int8{})
	none("no rows, but weights", nil, weights(1))
	none("rows without weights", many(1, 5), nil)
	none("more rows", many(3, 5), weights(2))
	none("more weights", many(2, 5), weights(3))
	none("too many rows", many(1025, 5), weights(1025))
	none("far too many rows", many(2048, 3), weights(2048))
	none("one of too many weights", many(1024, 3), weights(1025))
	none("short rows", many(3, 2), weights(3))
	none("empty rows", many(3, 0), weights(3))
	for at := range 3 {
		for _, long := range []int{0, 2, 3, 4, 6, 7, 50} {
			x := many(3, 5)
			x[at] = numbers(long, 0)
			none("unequal rows", x, weights(3))
		}
	}
	none("a short row before others", [][]int16{{1, 2}, {1, 2, 3}}, weights(2))
	none("an empty row before others", [][]int16{nil, {1, 2, 3}}, weights(2))
}

// P15.3
func TestBlocks(t *testing.T) {
	for n, want := range []int{0, 0, 0, 1, 1, 2, 2, 3, 3} {
		if got := wheel.Blocks(n); got != want {
			t.Errorf("Blocks(%d) = %d, want %d", n, got, want)
		}
	}
	for _, n := range append(sample.Far(), 1<<20-1, 1<<20, 999999999) {
		got, want := wheel.Blocks(n), 0
		if n >= 3 {
			want = (n-2)/2 + (n-2)%2
		}
		if got != want {
			t.Errorf("Blocks(%d) = %d, want %d", n, got, want)
		}
	}
}

// P15.4: twice the numbers.
func TestTwice(t *testing.T) {
	for long := range 20 {
		for _, w := range few() {
			var x, double []int16
			for _, v := range numbers(long, long) {
				x, double = append(x, v/2), append(double, v/2*2)
			}
			var want []int64
			for _, v := range wheel.Slide(x, w) {
				want = append(want, 2*v)
			}
			check(t, "Slide of twice", wheel.Slide(double, w), want)
		}
	}
}

// P15.4: rows behind each other.
func TestConcatenated(t *testing.T) {
	for front := range 12 {
		for back := range 12 {
			a, b := numbers(front, 3), numbers(back, 5)
			w := [3]int8{-128, 127, 7}
			both := wheel.Slide(slices.Concat(a, b), w)
			if len(both) != max(0, front+back-2) {
				t.Fatalf("Slide of %d and %d numbers has %d", front, back, len(both))
			}
			first, second := wheel.Slide(a, w), wheel.Slide(b, w)
			check(t, "the front of Slide", both[:len(first)], first)
			check(t, "the back of Slide", both[len(both)-len(second):], second)
		}
	}
}

// Rule 2: what is passed stays as it is, and what lies behind its end neither changes nor matters.
func TestNothingIsChanged(t *testing.T) {
	for long := range 9 {
		wide := numbers(long+6, 0)
		before, w := slices.Clone(wide), weights(3)
		x := [][]int16{wide[:long], numbers(long, 2), wide[:long]}
		want := together(x, w)
		check(t, "Slide", wheel.Slide(x[0], w[0]), slid(x[0], w[0]))
		check(t, "Many", wheel.Many(x, w), want)
		if !slices.Equal(wide, before) || !slices.Equal(x[1], numbers(long, 2)) || !slices.Equal(w, weights(3)) {
			t.Fatal("what was passed changed")
		}
	}
}

// Rule 2: results share nothing.
func TestNothingIsShared(t *testing.T) {
	x, w := many(2, 7), weights(2)
	first, second, one := wheel.Many(x, w), wheel.Many(x, w), wheel.Slide(x[0], w[0])
	want, wantOne := slices.Clone(second), slices.Clone(one)
	clear(first[:cap(first)])
	for i := range x {
		clear(x[i])
	}
	clear(w)
	check(t, "Many", second, want)
	check(t, "Slide", one, wantOne)
}
