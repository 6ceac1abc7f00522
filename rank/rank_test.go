package rank_test

import (
	"math"
	"slices"
	"testing"

	"stepwell/rank"
	"stepwell/sample"
)

const (
	min32 = math.MinInt32
	max32 = math.MaxInt32
)

// ordered is all positions: as long as there are some, the first one of the greatest number is taken.
func ordered(l []int32) []int {
	taken := make([]bool, len(l))
	var order []int
	for range l {
		next := -1
		for i, v := range l {
			if !taken[i] && (next < 0 || v > l[next]) {
				next = i
			}
		}
		taken[next] = true
		order = append(order, next)
	}
	return order
}

// short visits all lists of at most five of these numbers.
func short(visit func(l []int32)) {
	numbers := []int32{min32, -1, 0, 5, max32}
	lists := [][]int32{nil}
	for len(lists) > 0 {
		l := lists[0]
		lists = lists[1:]
		visit(l)
		if len(l) == 5 {
			continue
		}
		for _, v := range numbers {
			lists = append(lists, append(slices.Clone(l), v))
		}
	}
}

// long visits lists of many numbers, with few and with many equal ones among them.
func long(visit func(l []int32)) {
	for _, size := range []int{12, 13, 16, 50, 51, 300, 1000} {
		for _, many := range []int{1, 2, 3, 7, 100, 1009} {
			var l, rising, falling []int32
			for i := range size {
				l = append(l, int32(i*i*31%many-many/2))
				rising = append(rising, int32(i/many))
				falling = append(falling, max32-int32(i/many))
			}
			visit(l)
			visit(rising)
			visit(falling)
		}
	}
}

func lists(visit func(l []int32)) {
	short(visit)
	long(visit)
}

// P22.1, P22.2: numbers written out.
func TestByHand(t *testing.T) {
	for _, c := range []struct {
		l            []int32
		best, margin int
		order        []int
	}{
		{nil, -1, 0, nil}, {[]int32{}, -1, 0, nil}, {[]int32{5}, 0, 0, []int{0}}, {[]int32{-5}, 0, 0, []int{0}}, {[]int32{min32}, 0, 0, []int{0}}, {[]int32{max32}, 0, 0, []int{0}},
		{[]int32{3, 9, 9}, 1, 0, []int{1, 2, 0}}, {[]int32{9, 3, 9}, 0, 0, []int{0, 2, 1}}, {[]int32{9, 9, 3}, 0, 0, []int{0, 1, 2}}, {[]int32{3, 3, 9}, 2, 6, []int{2, 0, 1}},
		{[]int32{1, 2, 4, 8}, 3, 4, []int{3, 2, 1, 0}}, {[]int32{8, 4, 2, 1}, 0, 4, []int{0, 1, 2, 3}}, {[]int32{2, 8, 1, 4}, 1, 4, []int{1, 3, 0, 2}},
		{[]int32{-3, -9, -1}, 2, 2, []int{2, 0, 1}}, {[]int32{0, 0, 0, 0}, 0, 0, []int{0, 1, 2, 3}}, {[]int32{-7, -7}, 0, 0, []int{0, 1}}, {[]int32{7, 0, 7, 7}, 0, 0, []int{0, 2, 3, 1}},
		// Differences that 32 bits do not have.
		{[]int32{min32, max32}, 1, 1<<32 - 1, []int{1, 0}}, {[]int32{max32, min32}, 0, 1<<32 - 1, []int{0, 1}}, {[]int32{0, min32}, 0, 1 << 31, []int{0, 1}}, {[]int32{-1, max32}, 1, 1 << 31, []int{1, 0}},
		{[]int32{min32, min32}, 0, 0, []int{0, 1}}, {[]int32{max32, min32, max32 - 1}, 0, 1, []int{0, 2, 1}}, {[]int32{3, min32, max32, 3}, 2, max32 - 3, []int{2, 0, 3, 1}},
	} {
		if got := rank.Best(c.l); got != c.best {
			t.Errorf("Best(%d) = %d, want %d", c.l, got, c.best)
		}
		if got := rank.Margin(c.l); got != c.margin {
			t.Errorf("Margin(%d) = %d, want %d", c.l, got, c.margin)
		}
		if got := rank.Order(c.l); !slices.Equal(got, c.order) {
			t.Errorf("Order(%d) = %d, want %d", c.l, got, c.order)
		}
	}
}

// P22.1
func TestBestAndMargin(t *testing.T) {
	lists(func(l []int32) {
		best, margin := -1, 0
		order := ordered(l)
		if len(l) > 0 {
			best = order[0]
		}
		if len(l) > 1 {
			margin = int(l[order[0]]) - int(l[order[1]])
		}
		if got := rank.Best(l); got != best {
			t.Fatalf("Best(%d) = %d, want %d", l, got, best)
		}
		if got := rank.Margin(l); got != margin {
			t.Fatalf("Margin(%d) = %d, want %d", l, got, margin)
		}
	})
}

// P22.2
func TestOrder(t *testing.T) {
	lists(func(l []int32) {
		if got, want := rank.Order(l), ordered(l); !slices.Equal(got, want) {
			t.Fatalf("Order(%d) = %d, want %d", l, got, want)
		}
	})
}

// P22.2: from none to all, and numbers far beyond both.
func TestTop(t *testing.T) {
	checkTop := func(l []int32, n int, want []int) {
		t.Helper()
		if got := rank.Top(l, n); !slices.Equal(got, want) {
			t.Fatalf("Top(%d, %d) = %d, want %d", l, n, got, want)
		}
	}
	lists(func(l []int32) {
		order := ordered(l)
		for _, n := range []int{math.MinInt64, min32, -len(l), -1, 0} {
			checkTop(l, n, nil)
		}
		for n := range min(len(l), 20) {
			checkTop(l, n, order[:n])
		}
		for _, n := range []int{len(l), len(l) + 1, 2*len(l) + 1, 1 << 32, math.MaxInt64} {
			checkTop(l, n, order)
		}
		checkTop(l, len(l)-1, order[:max(len(l)-1, 0)])
	})
}

// P22.2: each position has its place, and what is no position has none.
func TestPlace(t *testing.T) {
	lists(func(l []int32) {
		for place, i := range ordered(l) {
			if got := rank.Place(l, i); got != place {
				t.Fatalf("Place(%d, %d) = %d, want %d", l, i, got, place)
			}
		}
		for _, i := range append([]int{len(l), len(l) + 1, -len(l) - 1}, sample.Far()...) {
			if i >= 0 && i < len(l) {
				continue
			}
			if got := rank.Place(l, i); got != -1 {
				t.Fatalf("Place(%d, %d) = %d, want -1", l, i, got)
			}
		}
	})
	// The positions of the capacity are none.
	if l := []int32{1, 2, 3}; rank.Place(l[:2], 2) != -1 || rank.Best(l[:2]) != 1 || len(rank.Order(l[:2])) != 2 {
		t.Error("a number in the capacity counts")
	}
}

// P22.3: as far up as the greatest number goes.
func TestIncreased(t *testing.T) {
	lists(func(l []int32) {
		best := rank.Best(l)
		if best < 0 {
			return
		}
		room := max32 - int(l[best])
		for _, by := range []int{0, 1, 2, 1000, 1 << 31, room / 2, room - 1, room} {
			if by < 0 || by > room {
				continue
			}
			var up []int32
			for _, v := range l {
				up = append(up, int32(int(v)+by))
			}
			if rank.Best(up) != best || rank.Margin(up) != rank.Margin(l) || !slices.Equal(rank.Order(up), rank.Order(l)) {
				t.Fatalf("%d and the same increased by %d differ", l, by)
			}
		}
	})
}

// Rule 2: the list stays as it is up to its capacity, and no two results share anything.
func TestNothingIsShared(t *testing.T) {
	whole := []int32{5, 7, 6, 8, 9}
	for name, of := range map[string]func(l []int32) []int{
		"Order": rank.Order,
		"Top":   func(l []int32) []int { return rank.Top(l, 2) },
		"all":   func(l []int32) []int { return rank.Top(l, 9) },
	} {
		first, second := of(whole[:3]), of(whole[:3])
		clear(first[:cap(first)])
		if !slices.Equal(second, []int{1, 2, 0}[:len(second)]) {
			t.Errorf("a result of %s became %d", name, second)
		}
		rank.Best(whole[:3])
		rank.Margin(whole[:3])
		rank.Place(whole[:3], 1)
		if !slices.Equal(whole, []int32{5, 7, 6, 8, 9}) {
			t.Errorf("%s changed the list: %d", name, whole)
		}
	}
}
