package arena_test

import (
	"math"
	"slices"
	"testing"

	"stepwell/arena"
	"stepwell/lot"
	"stepwell/sample"
)

const (
	min64 = math.MinInt64
	max64 = math.MaxInt64
)

// steps is how many steps are drawn; the untils that are drawn lie below.
const steps = 40

// drawing is positions at each step, with the value that each of them belongs to (from 1).
type drawing [steps][]int

// room is a drawing with so many positions at each step.
func room(size int) *drawing {
	var d drawing
	for step := range d {
		d[step] = make([]int, size)
	}
	return &d
}

// holds tells whether another value is drawn where this one would be.
func (d *drawing) holds(i, size, until, at int) bool {
	for step := i; step == i || step <= until; step++ {
		for _, v := range d[step][at : at+size] {
			if v != 0 {
				return true
			}
		}
	}
	return false
}

func (d *drawing) draw(i, size, until, at int) {
	for step := i; step == i || step <= until; step++ {
		for p := at; p < at+size; p++ {
			d[step][p] = i + 1
		}
	}
}

// peak is how many positions are drawn at the step that has the most.
func (d *drawing) peak() int {
	most := 0
	for _, row := range d {
		many := 0
		for _, v := range row {
			if v != 0 {
				many++
			}
		}
		most = max(most, many)
	}
	return most
}

func sum(l []int) int {
	n := 0
	for _, v := range l {
		n += v
	}
	return n
}

// placed is what Place and Peak tell, by trying each place in a drawing.
func placed(sizes, until []int) (at []int, all, peak int) {
	d := room(sum(sizes))
	for i, size := range sizes {
		p := 0
		for d.holds(i, size, until[i], p) {
			p++
		}
		d.draw(i, size, until[i], p)
		at, all = append(at, p), max(all, p+size)
	}
	return at, all, d.peak()
}

// sound is what Sound tells of places that may be, by a drawing.
func sound(sizes, until, at []int) bool {
	most := 0
	for i, p := range at {
		most = max(most, p+sizes[i])
	}
	d := room(most)
	for i, p := range at {
		if d.holds(i, sizes[i], until[i], p) {
			return false
		}
		d.draw(i, sizes[i], until[i], p)
	}
	return true
}

// lists visits all lists of some length with numbers from lo to hi.
func lists(length, lo, hi int, visit func(l []int)) {
	l := slices.Repeat([]int{lo}, length)
	for {
		visit(slices.Clone(l))
		i := 0
		for i < length && l[i] == hi {
			l[i] = lo
			i++
		}
		if i == length {
			return
		}
		l[i]++
	}
}

// cases visits sizes and untils: all of few small ones, and many of some that are drawn.
func cases(visit func(sizes, until []int)) {
	for length := range 4 {
		lists(length, 0, 3, func(sizes []int) {
			lists(length, -1, length+1, func(until []int) { visit(sizes, until) })
		})
	}
	next := lot.From(7)
	for range 3000 {
		var sizes, until []int
		length := next(4, 25)
		most, longest := next(1, 9), next(1, 12)
		for i := range length {
			sizes, until = append(sizes, next(0, most)), append(until, next(i-1, min(i+longest, steps-1)))
		}
		visit(sizes, until)
	}
}

func checkPlaces(t *testing.T, sizes, until, want []int, wantAll int) {
	t.Helper()
	at, all, ok := arena.Place(sizes, until)
	if !slices.Equal(at, want) || all != wantAll || !ok {
		t.Fatalf("Place(%d, %d) = %d, %d, %t, want %d, %d", sizes, until, at, all, ok, want, wantAll)
	}
}

// P28.1: places written out.
func TestPlaceByHand(t *testing.T) {
	for _, c := range []struct {
		sizes, until, at []int
		all              int
	}{
		{nil, nil, nil, 0},
		{[]int{}, nil, nil, 0},
		{[]int{0}, []int{5}, []int{0}, 0},
		{[]int{7}, []int{-5}, []int{0}, 7},
		{[]int{4, 2, 3}, []int{1, 2, 2}, []int{0, 4, 0}, 6},
		{[]int{5, 5, 3, 2}, []int{1, 3, 2, 3}, []int{0, 5, 0, 0}, 10},
		// A value that is live until a step is still live at it, and not after it.
		{[]int{3, 3}, []int{0, 1}, []int{0, 0}, 3},
		{[]int{3, 3}, []int{1, 1}, []int{0, 3}, 6},
		// Below its own step, until means that step, at which no other value begins.
		{[]int{3, 3, 3}, []int{min64, min64, min64}, []int{0, 0, 0}, 3},
		{[]int{3, 3, 3}, []int{2, 0, 2}, []int{0, 3, 3}, 6},
		{[]int{3, 3, 3}, []int{max64, max64, max64}, []int{0, 3, 6}, 9},
		// A gap is taken if the size fits, and the first one of several.
		{[]int{2, 2, 2, 2, 2}, []int{9, 2, 9, 9, 9}, []int{0, 2, 4, 2, 6}, 8},
		{[]int{2, 2, 2, 3, 2}, []int{9, 2, 9, 9, 9}, []int{0, 2, 4, 6, 2}, 9},
		{[]int{2, 3, 2, 1, 2}, []int{9, 2, 9, 9, 9}, []int{0, 2, 5, 2, 3}, 7},
		{[]int{1, 4, 1, 3, 1, 4, 1}, []int{9, 4, 9, 4, 9, 9, 9}, []int{0, 1, 5, 6, 9, 1, 6}, 10},
		// Later values may have smaller places: what is occupied is not in the order of the values.
		{[]int{4, 1, 2, 2, 2}, []int{1, 9, 9, 9, 9}, []int{0, 4, 0, 2, 5}, 7},
		// Nothing overlaps what has no size.
		{[]int{3, 0, 3, 0}, []int{9, 9, 9, 9}, []int{0, 0, 3, 0}, 6},
		{[]int{0, 3, 0, 3}, []int{9, 9, 9, 9}, []int{0, 0, 0, 3}, 6},
		// The greatest position may be that of a value that is gone.
		{[]int{1, 9, 2}, []int{9, 1, 2}, []int{0, 1, 1}, 10},
	} {
		checkPlaces(t, c.sizes, c.until, c.at, c.all)
	}
}

// P28.1, P28.2, P28.3: places and peaks by a drawing of all positions at all steps.
func TestPlaceAndPeak(t *testing.T) {
	gaps := 0
	cases(func(sizes, until []int) {
		want, wantAll, peak := placed(sizes, until)
		checkPlaces(t, sizes, until, want, wantAll)
		if got := arena.Peak(sizes, until); got != peak {
			t.Fatalf("Peak(%d, %d) = %d, want %d", sizes, until, got, peak)
		}
		if !arena.Sound(sizes, until, want) {
			t.Fatalf("Sound(%d, %d) is false for what Place told", sizes, until)
		}
		if wantAll < peak || wantAll > sum(sizes) {
			t.Fatalf("Place(%d, %d) takes %d, with the peak %d", sizes, until, wantAll, peak)
		}
		if wantAll > peak {
			gaps++
		}
	})
	if gaps == 0 {
		t.Error("no case needs more than the peak")
	}
}

// P28.2: peaks written out.
func TestPeakByHand(t *testing.T) {
	for _, c := range []struct {
		sizes, until []int
		want         int
	}{
		{nil, nil, 0}, {[]int{0}, []int{0}, 0}, {[]int{7}, []int{-1}, 7}, {[]int{5, 5, 3, 2}, []int{1, 3, 2, 3}, 10},
		{[]int{3, 4}, []int{0, 1}, 4}, {[]int{3, 4}, []int{1, 1}, 7}, {[]int{3, 4, 5}, []int{1, 1, 2}, 7}, {[]int{3, 4, 5}, []int{1, min64, 2}, 7},
		{[]int{3, 4, 5}, []int{max64, max64, max64}, 12}, {[]int{9, 1, 1}, []int{min64, 2, 2}, 9},
	} {
		if got := arena.Peak(c.sizes, c.until); got != c.want {
			t.Errorf("Peak(%d, %d) = %d, want %d", c.sizes, c.until, got, c.want)
		}
	}
}

// P28.2: places written out, that overlap and do not.
func TestSoundByHand(t *testing.T) {
	for _, c := range []struct {
		sizes, until, at []int
		want             bool
	}{
		{nil, nil, nil, true}, {[]int{}, nil, []int{}, true},
		{[]int{3}, []int{0}, []int{5}, true},
		{[]int{2, 2}, []int{1, 1}, []int{0, 1}, false}, {[]int{2, 2}, []int{0, 1}, []int{0, 1}, true},
		{[]int{2, 2}, []int{1, 1}, []int{0, 2}, true}, {[]int{2, 2}, []int{1, 1}, []int{2, 0}, true},
		{[]int{2, 2}, []int{1, 1}, []int{1, 0}, false}, {[]int{2, 2}, []int{1, 1}, []int{1, 1}, false},
		{[]int{5, 1}, []int{1, 1}, []int{0, 2}, false}, {[]int{1, 5}, []int{1, 1}, []int{2, 0}, false},
		// The first and the last one are live together, whatever is between.
		{[]int{2, 2, 2}, []int{2, 1, 2}, []int{0, 2, 0}, false}, {[]int{2, 2, 2}, []int{1, 1, 2}, []int{0, 2, 0}, true},
		// Of two that are live long, the later one begins last, even if it ends at once.
		{[]int{2, 2}, []int{max64, min64}, []int{0, 1}, false}, {[]int{2, 2}, []int{min64, max64}, []int{0, 1}, true},
		// No position belongs to what has no size.
		{[]int{5, 0}, []int{1, 1}, []int{0, 2}, true}, {[]int{0, 5}, []int{1, 1}, []int{2, 0}, true}, {[]int{0, 0}, []int{1, 1}, []int{2, 2}, true},
		{[]int{1 << 20, 1 << 20}, []int{1, 1}, []int{1 << 40, 1<<40 - 1<<20}, true}, {[]int{1 << 20, 1 << 20}, []int{1, 1}, []int{1 << 40, 1<<40 - 1<<20 + 1}, false},
	} {
		if got := arena.Sound(c.sizes, c.until, c.at); got != c.want {
			t.Errorf("Sound(%d, %d, %d) = %t", c.sizes, c.until, c.at, got)
		}
	}
}

// P28.2: all places of few small values, and some of many.
func TestSound(t *testing.T) {
	told := map[bool]int{}
	check := func(sizes, until, at []int) {
		t.Helper()
		want := sound(sizes, until, at)
		if got := arena.Sound(sizes, until, at); got != want {
			t.Fatalf("Sound(%d, %d, %d) = %t", sizes, until, at, got)
		}
		told[want]++
	}
	for length := range 4 {
		lists(length, 0, 2, func(sizes []int) {
			lists(length, 0, length, func(until []int) {
				lists(length, 0, 3, func(at []int) { check(sizes, until, at) })
			})
		})
	}
	next := lot.From(9)
	cases(func(sizes, until []int) {
		// What Place tells, with one value that may have another place.
		at, all, _ := arena.Place(sizes, until)
		if len(at) == 0 {
			return
		}
		at[next(0, len(at)-1)] = next(0, all)
		check(sizes, until, at)
	})
	if told[true] == 0 || told[false] == 0 {
		t.Errorf("only %v was told", told)
	}
}

// checkNone tells whether there are no places for such values.
func checkNone(t *testing.T, sizes, until []int) {
	t.Helper()
	if at, all, ok := arena.Place(sizes, until); len(at) != 0 || all != 0 || ok {
		t.Errorf("Place of %d sizes and %d untils = %d places, %d, %t", len(sizes), len(until), len(at), all, ok)
	}
	if arena.Sound(sizes, until, make([]int, len(sizes))) || arena.Sound(sizes, until, make([]int, len(until))) {
		t.Errorf("Sound of %d sizes and %d untils is true", len(sizes), len(until))
	}
	if got := arena.Peak(sizes, until); got != 0 {
		t.Errorf("Peak of %d sizes and %d untils = %d", len(sizes), len(until), got)
	}
}

// P28.1, P28.2: lists of other lengths, too many values, and sizes that may not be.
func TestWrongValues(t *testing.T) {
	for _, lengths := range [][2]int{{0, 1}, {1, 0}, {2, 3}, {3, 2}, {1024, 1023}, {1024, 1025}, {1025, 1024}, {1025, 1025}, {3000, 3000}} {
		// No size at all: what is wrong is the number of values alone.
		checkNone(t, make([]int, lengths[0]), make([]int, lengths[1]))
	}
	for _, wrong := range append([]int{1<<20 + 1, 1 << 21}, sample.Far()...) {
		if wrong >= 0 && wrong <= 1<<20 {
			continue
		}
		for i := range 3 {
			sizes := []int{1, 2, 3}
			sizes[i] = wrong
			checkNone(t, sizes, []int{0, 1, 2})
		}
	}
}

// P28.2: places that are not as many as they must be, or may not be, also of values without a size.
func TestWrongPlaces(t *testing.T) {
	for _, at := range [][]int{nil, {0}, {0, 1}, {0, 1, 2, 3}} {
		if arena.Sound([]int{0, 0, 0}, []int{0, 1, 2}, at) {
			t.Errorf("Sound with the places %d is true", at)
		}
	}
	for _, wrong := range append([]int{1<<40 + 1, 1 << 41}, sample.Far()...) {
		for i := range 3 {
			at := []int{0, 0, 0}
			at[i] = wrong
			want := wrong >= 0 && wrong <= 1<<40
			if got := arena.Sound([]int{0, 0, 0}, []int{0, 1, 2}, at); got != want {
				t.Errorf("Sound with the places %d = %t", at, got)
			}
			if got := arena.Sound([]int{1, 1, 1}, []int{0, 1, 2}, at); got != want {
				t.Errorf("Sound of some sizes with the places %d = %t", at, got)
			}
		}
	}
	if !arena.Sound([]int{1 << 20}, []int{0}, []int{1 << 40}) {
		t.Error("Sound of the greatest size at the greatest place is false")
	}
}

// P28.1, P28.2: as many values as there may be, of the greatest size.
func TestMostValues(t *testing.T) {
	const many, size = 1024, 1 << 20
	sizes := slices.Repeat([]int{size}, many)
	for _, c := range []struct{ until, apart int }{{max64, many}, {many - 1, many}, {min64, 1}, {0, 1}} {
		until := slices.Repeat([]int{c.until}, many)
		at, all, ok := arena.Place(sizes, until)
		if !ok || all != c.apart*size || len(at) != many || at[many-1] != (c.apart-1)*size {
			t.Errorf("Place of values until %d takes %d, %t", c.until, all, ok)
		}
		if !arena.Sound(sizes, until, at) || arena.Peak(sizes, until) != c.apart*size {
			t.Errorf("the peak of values until %d is %d", c.until, arena.Peak(sizes, until))
		}
		at[many-1]++
		if !arena.Sound(sizes, until, at) {
			t.Error("Sound of a place beyond all others is false")
		}
		// Now it overlaps the one before, or begins before place 0.
		at[many-1] -= 2
		if arena.Sound(sizes, until, at) {
			t.Errorf("Sound of the place %d is true", at[many-1])
		}
	}
}

// Rule 2: what is passed stays as it is, up to its capacity, and shares nothing with what is told.
func TestNothingIsShared(t *testing.T) {
	wide := func(l ...int) []int { return append(slices.Clone(l), 77, 78)[:len(l)] }
	sizes, until := wide(4, 2, 3), wide(1, 2, 2)
	first, _, _ := arena.Place(sizes, until)
	second, _, _ := arena.Place(sizes, until)
	at := wide(first...)
	arena.Sound(sizes, until, at)
	arena.Peak(sizes, until)
	clear(first[:cap(first)])
	if !slices.Equal(sizes[:5], []int{4, 2, 3, 77, 78}) || !slices.Equal(until[:5], []int{1, 2, 2, 77, 78}) || !slices.Equal(at[:5], []int{0, 4, 0, 77, 78}) {
		t.Errorf("what was passed became %d, %d, %d", sizes[:5], until[:5], at[:5])
	}
	clear(sizes)
	clear(until)
	if !slices.Equal(second, []int{0, 4, 0}) {
		t.Errorf("the places became %d", second)
	}
}
