package shape_test

import (
	"math"
	"testing"

	"stepwell/api"
	"stepwell/shape"
)

const (
	minInt = math.MinInt64
	maxInt = math.MaxInt64
)

// far are numbers that no shape, no position and no window has; some would fit if they were cut to fewer bits, or multiplied without care.
var far = []int{minInt, minInt + 1, -1 << 62, -1 << 32, -1<<32 + 1, -1025, -17, -2, -1, 1 << 31, 1 << 32, 1<<32 + 1, 1<<32 + 2, 1 << 60, 1 << 62, 1 << 63 / 3, maxInt - 1, maxInt}

var wrongShapes = []api.Shape{
	{}, {H: 1, W: 1}, {H: 1, C: 1}, {W: 1, C: 1}, {H: -1, W: -1, C: 1}, {H: -1, W: 1, C: -1}, {H: 1, W: -2, C: -2}, {H: 17, W: 1, C: 1}, {H: 1, W: 17, C: 1},
	{H: 1, W: 1, C: 1025}, {H: 16, W: 16, C: 5}, {H: 5, W: 5, C: 41}, {H: 1, W: 5, C: 205}, {H: 2, W: 1, C: 513}, {H: 1, W: 2, C: 513}, {H: 1, W: 3, C: 342}, {H: 16, W: 16, C: 1024}, {H: 0, W: 4, C: 4}, {H: 4, W: 0, C: 4}, {H: 4, W: 4, C: 0},
	{H: 1 << 32, W: 1 << 32, C: 1}, {H: 1 << 62, W: 4, C: 1}, {H: 2, W: 1 << 63 / 2, C: 2}, {H: maxInt, W: maxInt, C: maxInt}, {H: minInt, W: minInt, C: minInt}, {H: minInt, W: 1, C: 1}, {H: 1, W: 1, C: minInt},
}

// eachRight visits all valid shapes.
func eachRight(visit func(s api.Shape, elems int)) {
	for h := 1; h <= 16; h++ {
		for w := 1; w <= 16; w++ {
			for c := 1; h*w*c <= 1024; c++ {
				visit(api.Shape{H: h, W: w, C: c}, h*w*c)
			}
		}
	}
}

// P4.1
func TestRightAndElems(t *testing.T) {
	for _, c := range []struct {
		s    api.Shape
		want int
	}{
		{api.Shape{H: 1, W: 1, C: 1}, 1}, {api.Shape{H: 2, W: 3, C: 4}, 24}, {api.Shape{H: 16, W: 16, C: 4}, 1024}, {api.Shape{H: 1, W: 1, C: 1024}, 1024}, {api.Shape{H: 1, W: 2, C: 512}, 1024},
		{api.Shape{H: 16, W: 1, C: 64}, 1024}, {api.Shape{H: 1, W: 16, C: 64}, 1024}, {api.Shape{H: 1, W: 1, C: 65}, 65}, {api.Shape{H: 3, W: 1, C: 341}, 1023}, {api.Shape{H: 16, W: 16, C: 1}, 256},
	} {
		if got := shape.Elems(c.s); got != c.want || !shape.Right(c.s) {
			t.Errorf("%+v: Elems %d, Right %t, want %d, true", c.s, got, shape.Right(c.s), c.want)
		}
	}
	eachRight(func(s api.Shape, elems int) {
		if got := shape.Elems(s); got != elems || !shape.Right(s) {
			t.Fatalf("%+v: Elems %d, Right %t, want %d, true", s, got, shape.Right(s), elems)
		}
	})
}

func checkWrong(t *testing.T, s api.Shape) {
	t.Helper()
	if got := shape.Elems(s); got != 0 || shape.Right(s) {
		t.Errorf("%+v: Elems %d, Right %t, want 0, false", s, got, shape.Right(s))
	}
}

// P4.1
func TestWrongShapes(t *testing.T) {
	for _, s := range wrongShapes {
		checkWrong(t, s)
	}
	for _, n := range far {
		for _, m := range append([]int{1, 2, 16}, far...) {
			for _, s := range []api.Shape{{H: n, W: m, C: 1}, {H: m, W: n, C: 2}, {H: n, W: 1, C: m}, {H: m, W: 2, C: n}, {H: 1, W: n, C: m}, {H: 2, W: m, C: n}, {H: n, W: n, C: m}, {H: n, W: m, C: n}} {
				checkWrong(t, s)
			}
		}
	}
	for h := -2; h <= 18; h++ {
		for w := -2; w <= 18; w++ {
			for _, c := range []int{-1, 0, 1, 2, 4, 5, 63, 64, 65, 512, 513, 1023, 1024, 1025} {
				if h < 1 || w < 1 || c < 1 || h > 16 || w > 16 || c > 1024 || h*w*c > 1024 {
					checkWrong(t, api.Shape{H: h, W: w, C: c})
				}
			}
		}
	}
}

// P4.2
func TestIndexAndPlace(t *testing.T) {
	s := api.Shape{H: 2, W: 3, C: 4}
	for _, c := range []struct{ h, w, c, i int }{{0, 0, 0, 0}, {0, 0, 1, 1}, {0, 0, 3, 3}, {0, 1, 0, 4}, {0, 2, 3, 11}, {1, 0, 0, 12}, {1, 0, 1, 13}, {1, 1, 2, 18}, {1, 2, 3, 23}} {
		if got, ok := shape.Index(s, c.h, c.w, c.c); got != c.i || !ok {
			t.Errorf("Index(%d, %d, %d) = %d, %t, want %d, true", c.h, c.w, c.c, got, ok, c.i)
		}
		if got, ok := shape.Place(s, c.i); got != [3]int{c.h, c.w, c.c} || !ok {
			t.Errorf("Place(%d) = %d, %t, want %d %d %d, true", c.i, got, ok, c.h, c.w, c.c)
		}
	}
}

// P4.2, P4.4: counted through row by row, column by column, channel by channel.
func TestPositionsFollow(t *testing.T) {
	eachRight(func(s api.Shape, elems int) {
		i := 0
		for h := range s.H {
			for w := range s.W {
				for c := range s.C {
					if got, ok := shape.Index(s, h, w, c); got != i || !ok {
						t.Fatalf("Index(%+v, %d, %d, %d) = %d, %t, want %d, true", s, h, w, c, got, ok, i)
					}
					if got, ok := shape.Place(s, i); got != [3]int{h, w, c} || !ok {
						t.Fatalf("Place(%+v, %d) = %d, %t, want %d %d %d, true", s, i, got, ok, h, w, c)
					}
					i++
				}
			}
		}
		if i != elems {
			t.Fatalf("%+v has %d positions, want %d", s, i, elems)
		}
	})
}

func checkNoElement(t *testing.T, s api.Shape, h, w, c int) {
	t.Helper()
	if got, ok := shape.Index(s, h, w, c); got != 0 || ok {
		t.Errorf("Index(%+v, %d, %d, %d) = %d, %t, want 0, false", s, h, w, c, got, ok)
	}
}

func checkNoPlace(t *testing.T, s api.Shape, i int) {
	t.Helper()
	if got, ok := shape.Place(s, i); got != [3]int{} || ok {
		t.Errorf("Place(%+v, %d) = %d, %t, want zeros, false", s, i, got, ok)
	}
}

// P4.2: an element beside a row, a column or a channel is none, also where the position that it would have is another one's.
func TestNoSuchElement(t *testing.T) {
	for _, s := range []api.Shape{{H: 1, W: 1, C: 1}, {H: 2, W: 3, C: 4}, {H: 16, W: 16, C: 4}, {H: 1, W: 1, C: 1024}, {H: 4, W: 1, C: 7}} {
		for _, n := range append([]int{-1, 1024, 1025}, far...) {
			checkNoElement(t, s, n, 0, 0)
			checkNoElement(t, s, 0, n, 0)
			checkNoElement(t, s, 0, 0, n)
			checkNoElement(t, s, n, n, n)
			checkNoElement(t, s, s.H-1, s.W-1, n)
			checkNoPlace(t, s, n)
		}
		checkNoElement(t, s, s.H, 0, 0)
		checkNoElement(t, s, 0, s.W, 0)
		checkNoElement(t, s, 0, 0, s.C)
		checkNoElement(t, s, s.H-1, -1, s.C-1)
		checkNoElement(t, s, s.H-1, s.W-1, -1)
		checkNoElement(t, s, -1, s.W-1, s.C-1)
		checkNoPlace(t, s, s.H*s.W*s.C)
	}
	checkNoElement(t, api.Shape{H: 2, W: 3, C: 4}, 1, -1, 4)
	checkNoElement(t, api.Shape{H: 2, W: 3, C: 4}, 0, 3, 0)
}

// P4.2
func TestPositionsOfWrongShapes(t *testing.T) {
	for _, s := range wrongShapes {
		for _, n := range append([]int{0, 1, 2, 3}, far...) {
			checkNoElement(t, s, n, 0, 0)
			checkNoElement(t, s, 0, n, n)
			checkNoElement(t, s, 0, 0, n)
			checkNoPlace(t, s, n)
		}
	}
}

// counted is how many positions a window has, found by moving it.
func counted(n, k, stride, pad int) int {
	count := 0
	for first := -pad; first+k <= n+pad; first += stride {
		count++
	}
	return count
}

// P4.3
func TestSteps(t *testing.T) {
	for _, c := range []struct {
		n, k, stride, pad, want int
		err                     api.Errno
	}{
		{5, 3, 2, 1, 3, api.OK}, {5, 3, 1, 0, 3, api.OK}, {5, 3, 1, 1, 5, api.OK}, {5, 3, 2, 0, 2, api.OK}, {6, 3, 2, 0, 2, api.OK}, {3, 3, 1, 0, 1, api.OK}, {3, 3, 4, 0, 1, api.OK},
		{1, 1, 1, 0, 1, api.OK}, {1, 5, 1, 4, 5, api.OK}, {1, 5, 4, 4, 2, api.OK}, {1, 5, 1, 2, 1, api.OK}, {1, 3, 1, 1, 1, api.OK}, {1, 2, 1, 1, 2, api.OK},
		{1024, 5, 1, 4, 1028, api.OK}, {1024, 1, 1, 0, 1024, api.OK}, {1024, 5, 4, 0, 255, api.OK}, {1024, 1, 4, 0, 256, api.OK},
		{1, 3, 1, 0, 0, api.ErrShape}, {2, 3, 1, 0, 0, api.ErrShape}, {1, 5, 1, 1, 0, api.ErrShape}, {4, 5, 4, 0, 0, api.ErrShape}, {2, 5, 1, 1, 0, api.ErrShape}, {3, 5, 1, 1, 1, api.OK},
		{0, 1, 1, 0, 0, api.ErrArg}, {1025, 1, 1, 0, 0, api.ErrArg}, {5, 0, 1, 0, 0, api.ErrArg}, {5, 6, 1, 0, 0, api.ErrArg}, {5, 3, 0, 0, 0, api.ErrArg}, {5, 3, 5, 0, 0, api.ErrArg},
		{5, 3, 1, -1, 0, api.ErrArg}, {5, 5, 1, 5, 0, api.ErrArg}, {5, 3, 1, 3, 0, api.ErrArg}, {5, 3, 1, 4, 0, api.ErrArg}, {5, 1, 1, 1, 0, api.ErrArg}, {5, 5, 1, 4, 9, api.OK}, {5, 4, 1, 4, 0, api.ErrArg},
		{1, 3, 0, 0, 0, api.ErrArg}, {1, 3, 5, 0, 0, api.ErrArg}, {0, 3, 1, 1, 0, api.ErrArg}, {1, 6, 1, 0, 0, api.ErrArg},
	} {
		if got, err := shape.Steps(c.n, c.k, c.stride, c.pad); got != c.want || err != c.err {
			t.Errorf("Steps(%d, %d, %d, %d) = %d, %d, want %d, %d", c.n, c.k, c.stride, c.pad, got, err, c.want, c.err)
		}
	}
}

// eachWindow visits all windows that may be, but for what they are laid over.
func eachWindow(visit func(k, stride, pad int)) {
	for k := 1; k <= 5; k++ {
		for stride := 1; stride <= 4; stride++ {
			for pad := range k {
				visit(k, stride, pad)
			}
		}
	}
}

// P4.3, P4.5: all that may be, against a window that is moved.
func TestStepsOfAll(t *testing.T) {
	eachWindow(func(k, stride, pad int) {
		for n := 1; n <= 1024; n++ {
			want, wantErr := counted(n, k, stride, pad), api.OK
			if want == 0 {
				wantErr = api.ErrShape
			}
			got, err := shape.Steps(n, k, stride, pad)
			if got != want || err != wantErr {
				t.Fatalf("Steps(%d, %d, %d, %d) = %d, %d, want %d, %d", n, k, stride, pad, got, err, want, wantErr)
			}
			if err == api.OK && ((got-1)*stride+k > n+2*pad || got*stride+k <= n+2*pad) {
				t.Fatalf("Steps(%d, %d, %d, %d) = %d: the last window does not lie at the end", n, k, stride, pad, got)
			}
		}
	})
}

// P4.3: ErrArg comes before ErrShape, wherever a wrong number stands.
func TestStepsWrongArguments(t *testing.T) {
	check := func(n, k, stride, pad int) {
		if got, err := shape.Steps(n, k, stride, pad); got != 0 || err != api.ErrArg {
			t.Errorf("Steps(%d, %d, %d, %d) = %d, %d, want 0, ErrArg", n, k, stride, pad, got, err)
		}
	}
	for _, wrong := range far {
		for _, n := range []int{1, 2, 3, 16, 1024} {
			check(n, wrong, 1, 0)
			check(n, 3, wrong, 1)
			check(n, 5, 1, wrong)
			check(n, wrong, wrong, wrong)
		}
		check(wrong, 3, 1, 1)
		check(wrong, 5, 4, 0)
		check(wrong, wrong, wrong, wrong)
	}
	for k := 1; k <= 5; k++ {
		for pad := k; pad <= 6; pad++ {
			check(16, k, 1, pad)
			check(1, k, 4, pad)
		}
		for _, stride := range []int{-1, 0, 5, 6} {
			check(16, k, stride, 0)
			check(1, k, stride, 0)
		}
		for _, n := range []int{-1, 0, 1025, 1026} {
			check(n, k, 1, k-1)
		}
	}
	for _, k := range []int{-1, 0, 6, 7} {
		check(16, k, 1, 0)
		check(1, k, 1, 4)
	}
}

// P4.3
func TestSlide(t *testing.T) {
	for _, c := range []struct {
		s                   api.Shape
		k, stride, pad, out int
		want                api.Shape
		err                 api.Errno
	}{
		{api.Shape{H: 4, W: 5, C: 2}, 3, 1, 1, 6, api.Shape{H: 4, W: 5, C: 6}, api.OK}, {api.Shape{H: 4, W: 5, C: 2}, 3, 1, 0, 6, api.Shape{H: 2, W: 3, C: 6}, api.OK},
		{api.Shape{H: 4, W: 7, C: 2}, 2, 2, 0, 1, api.Shape{H: 2, W: 3, C: 1}, api.OK}, {api.Shape{H: 16, W: 16, C: 4}, 5, 4, 2, 64, api.Shape{H: 4, W: 4, C: 64}, api.OK},
		{api.Shape{H: 3, W: 3, C: 9}, 3, 1, 0, 1024, api.Shape{H: 1, W: 1, C: 1024}, api.OK}, {api.Shape{H: 3, W: 3, C: 9}, 3, 1, 0, 1025, api.Shape{}, api.ErrShape},
		{api.Shape{H: 16, W: 16, C: 1}, 1, 1, 0, 4, api.Shape{H: 16, W: 16, C: 4}, api.OK}, {api.Shape{H: 16, W: 16, C: 1}, 1, 1, 0, 5, api.Shape{}, api.ErrShape},
		{api.Shape{H: 16, W: 2, C: 1}, 2, 1, 1, 1, api.Shape{}, api.ErrShape}, {api.Shape{H: 2, W: 16, C: 1}, 2, 1, 1, 1, api.Shape{}, api.ErrShape}, {api.Shape{H: 15, W: 15, C: 1}, 2, 1, 1, 4, api.Shape{H: 16, W: 16, C: 4}, api.OK},
		{api.Shape{H: 4, W: 5, C: 2}, 3, 1, 1, 0, api.Shape{}, api.ErrShape}, {api.Shape{H: 4, W: 5, C: 2}, 3, 1, 1, -6, api.Shape{}, api.ErrShape},
		{api.Shape{H: 2, W: 5, C: 2}, 3, 1, 0, 6, api.Shape{}, api.ErrShape}, {api.Shape{H: 5, W: 2, C: 2}, 3, 1, 0, 6, api.Shape{}, api.ErrShape},
		{api.Shape{H: 4, W: 5, C: 2}, 3, 1, 3, 6, api.Shape{}, api.ErrArg}, {api.Shape{H: 4, W: 5, C: 2}, 0, 1, 0, 6, api.Shape{}, api.ErrArg}, {api.Shape{H: 4, W: 5, C: 2}, 3, 5, 0, 6, api.Shape{}, api.ErrArg},
		{api.Shape{H: 2, W: 2, C: 2}, 3, 0, 0, 6, api.Shape{}, api.ErrArg}, {api.Shape{H: 4, W: 5, C: 2}, 3, 0, 0, 0, api.Shape{}, api.ErrArg}, {api.Shape{H: 4, W: 5, C: 2}, 6, 1, 0, 6, api.Shape{}, api.ErrArg},
		{api.Shape{H: 17, W: 5, C: 2}, 0, 0, 0, 0, api.Shape{}, api.ErrShape}, {api.Shape{H: 0, W: 5, C: 2}, 3, 1, 1, 6, api.Shape{}, api.ErrShape}, {api.Shape{H: 16, W: 16, C: 5}, 9, 9, 9, 9, api.Shape{}, api.ErrShape},
	} {
		if got, err := shape.Slide(c.s, c.k, c.stride, c.pad, c.out); got != c.want || err != c.err {
			t.Errorf("Slide(%+v, %d, %d, %d, %d) = %+v, %d, want %+v, %d", c.s, c.k, c.stride, c.pad, c.out, got, err, c.want, c.err)
		}
	}
}

// slid is what a window that is moved makes of a valid shape.
func slid(s api.Shape, k, stride, pad, out int) (api.Shape, api.Errno) {
	h, w := counted(s.H, k, stride, pad), counted(s.W, k, stride, pad)
	if h < 1 || h > 16 || w < 1 || w > 16 || out < 1 || out > 1024 || h*w*out > 1024 {
		return api.Shape{}, api.ErrShape
	}
	return api.Shape{H: h, W: w, C: out}, api.OK
}

// P4.3: all windows over all sides; the channels that come in do not matter.
func TestSlideOfAll(t *testing.T) {
	eachWindow(func(k, stride, pad int) {
		for h := 1; h <= 16; h++ {
			for w := 1; w <= 16; w++ {
				for _, out := range []int{minInt, -1, 0, 1, 4, 5, 64, 65, 1023, 1024, 1025, maxInt} {
					s := api.Shape{H: h, W: w, C: 1 + out&3}
					want, wantErr := slid(s, k, stride, pad, out)
					if got, err := shape.Slide(s, k, stride, pad, out); got != want || err != wantErr {
						t.Fatalf("Slide(%+v, %d, %d, %d, %d) = %+v, %d, want %+v, %d", s, k, stride, pad, out, got, err, want, wantErr)
					}
				}
			}
		}
	})
}

// P4.3: an invalid shape is found first, then a wrong window, then wrong channels that go out.
func TestSlideOrderOfErrors(t *testing.T) {
	for _, wrong := range append([]int{0}, far...) {
		for _, s := range wrongShapes {
			for _, args := range [][4]int{{wrong, 1, 0, 1}, {3, wrong, 0, 1}, {3, 1, wrong, 1}, {3, 1, 0, wrong}, {wrong, wrong, wrong, wrong}} {
				if got, err := shape.Slide(s, args[0], args[1], args[2], args[3]); got != (api.Shape{}) || err != api.ErrShape {
					t.Errorf("Slide(%+v, %d) = %+v, %d, want no shape, ErrShape", s, args, got, err)
				}
			}
		}
		for _, s := range []api.Shape{{H: 1, W: 1, C: 1}, {H: 2, W: 8, C: 3}, {H: 8, W: 2, C: 3}, {H: 16, W: 16, C: 4}} {
			for _, args := range [][4]int{{wrong, 1, 0, wrong}, {5, wrong, 0, wrong}, {3, 1, 3, wrong}, {wrong, 1, wrong, 1}} {
				if got, err := shape.Slide(s, args[0], args[1], args[2], args[3]); got != (api.Shape{}) || err != api.ErrArg {
					t.Errorf("Slide(%+v, %d) = %+v, %d, want no shape, ErrArg", s, args, got, err)
				}
			}
		}
	}
}
