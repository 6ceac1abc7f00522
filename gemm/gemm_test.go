package gemm_test

import (
	"math"
	"slices"
	"testing"

	"stepwell/gemm"
	"stepwell/sample"
)

const most = 1 << 14

// sides is numbers of rows and columns, some of them one less or one more than many tiles have.
var sides = []int{1, 2, 3, 5, 7, 8, 9, 15, 16, 17, 31, 32, 33, 63, 64, 65, 97}

// numbers is numbers of which neighbours differ, with both limits of 16 bits among many.
func numbers(size int) []int16 {
	var l []int16
	for i := range size {
		l = append(l, int16(i*10007+i/64-32768))
	}
	return l
}

// layered is the products of two matrices: all products of one number of each row, then those of the next one, without a limit.
func layered(a []int16, b []int8, rows, mid, cols int) []int32 {
	sums := make([]int64, rows*cols)
	for m := range mid {
		for i := range sums {
			sums[i] += int64(a[i/cols*mid+m]) * int64(b[i%cols*mid+m])
		}
	}
	var l []int32
	for _, v := range sums {
		l = append(l, int32(v))
	}
	return l
}

func checkMul(t *testing.T, a []int16, b []int8, rows, mid, cols int, want []int32) {
	t.Helper()
	if got := gemm.Mul(a, b, rows, mid, cols); !slices.Equal(got, want) {
		t.Fatalf("Mul of %d and %d numbers with %d, %d, %d = %d, want %d", len(a), len(b), rows, mid, cols, got, want)
	}
}

func checkDot(t *testing.T, a []int16, b []int8, want int32) {
	t.Helper()
	if got := gemm.Dot(a, b); got != want {
		t.Errorf("Dot(%d, %d) = %d, want %d", a, b, got, want)
	}
}

// P12.1
func TestDot(t *testing.T) {
	checkDot(t, []int16{1, 2}, []int8{3, 4}, 11)
	checkDot(t, []int16{-300, 7, 1000}, []int8{-2, 0, 127}, 127600)
	checkDot(t, []int16{math.MinInt16, math.MaxInt16}, []int8{-128, 127}, 4194304+4161409)
	checkDot(t, []int16{math.MinInt16, math.MaxInt16}, []int8{127, -128}, -4161536-4194176)
	// The shorter list ends the sum.
	checkDot(t, []int16{5, 6, 7}, []int8{2}, 10)
	checkDot(t, []int16{5}, []int8{2, 3, 4}, 10)
	checkDot(t, nil, []int8{2}, 0)
	checkDot(t, []int16{5}, nil, 0)
	checkDot(t, nil, nil, 0)
	// What lies in a capacity does not count.
	checkDot(t, []int16{5, 6, 7}[:1], []int8{2, 3, 4}[:2], 10)
}

// P12.1: sums go on from the other end of 32 bits.
func TestDotWraps(t *testing.T) {
	a, b := slices.Repeat([]int16{math.MinInt16}, 1024), slices.Repeat([]int8{-128}, 1024)
	for _, c := range []struct {
		size int
		want int32
	}{{511, math.MaxInt32 - 4194303}, {512, math.MinInt32}, {513, math.MinInt32 + 4194304}, {1023, -4194304}, {1024, 0}} {
		if got := gemm.Dot(a[:c.size], b); got != c.want {
			t.Errorf("Dot of %d equal products = %d, want %d", c.size, got, c.want)
		}
		checkMul(t, a[:c.size], b[:c.size], 1, c.size, 1, []int32{c.want})
	}
	for _, size := range []int{100, 5000, 1 << 18} {
		l, weights := numbers(size), sample.Numbers(size)
		sum := int64(0)
		for i, v := range l {
			sum += int64(v) * int64(weights[i])
		}
		if got := gemm.Dot(l, weights); got != int32(sum) {
			t.Errorf("Dot of %d numbers = %d, want %d", size, got, int32(sum))
		}
	}
}

// P12.2: numbers written out.
func TestMulByHand(t *testing.T) {
	checkMul(t, []int16{1, 2}, []int8{3, 4}, 1, 2, 1, []int32{11})
	checkMul(t, []int16{1, 2, 3, 4}, []int8{1, 0, 0, 1, 1, 1}, 2, 2, 3, []int32{1, 2, 3, 3, 4, 7})
	checkMul(t, []int16{1, 2, 3, -4, -5, -6}, []int8{1, 10, 100}, 2, 3, 1, []int32{321, -654})
	checkMul(t, []int16{2, 3}, []int8{5, 7, 11}, 2, 1, 3, []int32{10, 14, 22, 15, 21, 33})
}

// P12.2
func TestAllSizes(t *testing.T) {
	for _, rows := range sides {
		for _, cols := range sides {
			for _, mid := range []int{1, 2, 9, 33} {
				a, b := numbers(rows*mid), sample.Numbers(cols*mid)
				checkMul(t, a, b, rows, mid, cols, layered(a, b, rows, mid, cols))
			}
		}
	}
}

// P12.2, P12.3: the greatest sizes.
func TestMost(t *testing.T) {
	for _, c := range [][3]int{{most, 1, 1}, {1, most, 1}, {1, 1, most}, {most, 2, 3}, {3, 2, most}, {2, most, 3}} {
		rows, mid, cols := c[0], c[1], c[2]
		a, b := numbers(rows*mid), sample.Numbers(cols*mid)
		checkMul(t, a, b, rows, mid, cols, layered(a, b, rows, mid, cols))
	}
	for _, c := range [][2]int{{most, 1}, {1, most}, {most, 3}, {3, most}} {
		b := sample.Numbers(c[0] * c[1])
		checkTurn(t, b, c[0], c[1], columns(b, c[0], c[1]))
	}
}

// wrongSizes is sizes that no matrix has, and some that a matrix of the same number of numbers would have, if they were cut or multiplied without care.
func wrongSizes() []int {
	l := []int{0, most + 1, 2 * most, 1 << 16, 1<<31 + 1, 1<<33 + 2, 1<<62 + 1}
	for _, far := range sample.Far() {
		if far < 0 || far > most {
			l = append(l, far)
		}
	}
	return l
}

// P12.2: sizes that may not be, though the lists are as long.
func TestWrongSizes(t *testing.T) {
	for _, wrong := range wrongSizes() {
		for _, c := range [][3]int{
			{wrong, 1, 1}, {1, wrong, 1}, {1, 1, wrong}, {wrong, wrong, 1}, {1, wrong, wrong}, {wrong, 1, wrong}, {wrong, wrong, wrong},
			{wrong, 4, 4}, {4, wrong, 4}, {4, 4, wrong}, {-1, wrong, -1},
		} {
			// The products are cut to 64 bits, and lists of so many numbers are passed where there is space for them.
			left, right := c[0]*c[1], c[2]*c[1]
			checkMul(t, nil, nil, c[0], c[1], c[2], nil)
			checkMul(t, []int16{1, 2, 3, 4}, []int8{1, 2, 3, 4}, c[0], c[1], c[2], nil)
			if left >= 0 && left <= 1<<17 && right >= 0 && right <= 1<<17 {
				checkMul(t, make([]int16, left), make([]int8, right), c[0], c[1], c[2], nil)
			}
		}
	}
}

// P12.2: lists that are shorter or longer.
func TestWrongLengths(t *testing.T) {
	for _, c := range [][3]int{{1, 1, 1}, {2, 3, 4}, {4, 3, 2}, {33, 2, 5}, {5, 2, 33}} {
		left, right := c[0]*c[1], c[2]*c[1]
		for _, a := range []int{0, left - 1, left, left + 1, 2 * left} {
			for _, b := range []int{0, right - 1, right, right + 1, 2 * right} {
				if a != left || b != right {
					checkMul(t, numbers(a), sample.Numbers(b), c[0], c[1], c[2], nil)
				}
			}
		}
	}
	// As many numbers in all, but in other rows.
	checkMul(t, numbers(6), sample.Numbers(8), 2, 4, 3, nil)
	checkMul(t, numbers(6), sample.Numbers(6), 3, 3, 2, nil)
}

func checkTurn(t *testing.T, b []int8, rows, cols int, want []int8) {
	t.Helper()
	if got := gemm.Turn(b, rows, cols); !slices.Equal(got, want) {
		t.Fatalf("Turn(%d, %d, %d) = %d, want %d", b, rows, cols, got, want)
	}
}

// columns is all numbers, column by column.
func columns(b []int8, rows, cols int) []int8 {
	var l []int8
	for c := range cols {
		for r := range rows {
			l = append(l, b[r*cols+c])
		}
	}
	return l
}

// P12.3
func TestTurn(t *testing.T) {
	checkTurn(t, []int8{1, 2, 3, 4, 5, 6}, 2, 3, []int8{1, 4, 2, 5, 3, 6})
	checkTurn(t, []int8{1, 2, 3, 4, 5, 6}, 3, 2, []int8{1, 3, 5, 2, 4, 6})
	for _, rows := range sides {
		for _, cols := range sides {
			b := sample.Numbers(rows * cols)
			checkTurn(t, b, rows, cols, columns(b, rows, cols))
		}
	}
}

// P12.3: sizes that may not be, and lists that are shorter or longer.
func TestWrongTurn(t *testing.T) {
	for _, wrong := range wrongSizes() {
		for _, c := range [][2]int{{wrong, 1}, {1, wrong}, {wrong, 4}, {4, wrong}, {wrong, wrong}, {wrong, -1}, {-1, wrong}} {
			checkTurn(t, nil, c[0], c[1], nil)
			checkTurn(t, []int8{1, 2, 3, 4}, c[0], c[1], nil)
			if size := c[0] * c[1]; size >= 0 && size <= 1<<17 {
				checkTurn(t, make([]int8, size), c[0], c[1], nil)
			}
		}
	}
	for _, size := range []int{0, 1, 5, 7, 12} {
		checkTurn(t, sample.Numbers(size), 2, 3, nil)
		checkTurn(t, sample.Numbers(size), 3, 2, nil)
	}
}

// part is some numbers of each row.
func part[T any](l []T, wide, from, to int) []T {
	var some []T
	for start := 0; start < len(l); start += wide {
		some = append(some, l[start+from:start+to]...)
	}
	return some
}

// P12.4
func TestPartsAddUp(t *testing.T) {
	const rows, mid, cols = 35, 19, 34
	a, b := numbers(rows*mid), sample.Numbers(cols*mid)
	want := gemm.Mul(a, b, rows, mid, cols)
	for cut := 1; cut < mid; cut++ {
		front := gemm.Mul(part(a, mid, 0, cut), part(b, mid, 0, cut), rows, cut, cols)
		back := gemm.Mul(part(a, mid, cut, mid), part(b, mid, cut, mid), rows, mid-cut, cols)
		if len(front) != rows*cols || len(back) != rows*cols {
			t.Fatalf("%d and %d products", len(front), len(back))
		}
		for i, v := range want {
			if front[i]+back[i] != v {
				t.Fatalf("%d and %d at %d, cut at %d, want %d", front[i], back[i], i, cut, v)
			}
		}
	}
}

// P12.4
func TestTurnTwice(t *testing.T) {
	for _, rows := range sides {
		for _, cols := range sides {
			b := sample.Numbers(rows * cols)
			checkTurn(t, gemm.Turn(b, rows, cols), cols, rows, b)
		}
	}
}

// Rule 2: what is passed stays as it is, up to its capacity, and shares nothing with a result, nor do two results.
func TestNothingIsShared(t *testing.T) {
	a, b := append(numbers(6), 7, 8)[:6], sample.Wide(sample.Numbers(6))
	products, turned, row := gemm.Mul(a, b, 2, 3, 2), gemm.Turn(b, 2, 3), gemm.Turn(b, 1, 6)
	gemm.Dot(a, b)
	for _, l := range [][]int8{gemm.Turn(b, 2, 3), gemm.Turn(b, 1, 6), gemm.Turn(b, 6, 1)} {
		clear(l[:cap(l)])
	}
	other := gemm.Mul(a, b, 2, 3, 2)
	clear(other[:cap(other)])
	if !slices.Equal(a[:8], append(numbers(6), 7, 8)) || !slices.Equal(b[:9], append(sample.Numbers(6), 101, 102, 103)) {
		t.Error("the numbers that were passed changed")
	}
	clear(a)
	clear(b)
	if !slices.Equal(products, layered(numbers(6), sample.Numbers(6), 2, 3, 2)) || !slices.Equal(turned, columns(sample.Numbers(6), 2, 3)) || !slices.Equal(row, sample.Numbers(6)) {
		t.Error("a result changed with another list")
	}
}
