package verdict_test

import (
	"math"
	"slices"
	"testing"

	"stepwell/api"
	"stepwell/sample"
	"stepwell/verdict"
)

const least, most = math.MinInt32, math.MaxInt32

func same(a, b verdict.Verdict) bool {
	return a.Class == b.Class && a.Margin == b.Margin && a.Enough == b.Enough && slices.Equal(a.Logits, b.Logits)
}

func checkLook(t *testing.T, x api.Tensor, h api.Head, classes int, want verdict.Verdict, wantErr api.Errno) {
	t.Helper()
	if got, err := verdict.Look(x, h, classes); !same(got, want) || err != wantErr {
		t.Fatalf("Look(%+v, %+v, %d) = %+v, %d, want %+v, %d", x, h, classes, got, err, want, wantErr)
	}
}

// checkWrong tells whether an exit has an error, and tells nothing else.
func checkWrong(t *testing.T, x api.Tensor, h api.Head, classes int, want api.Errno) {
	t.Helper()
	if got := verdict.Check(x.Shape, h, classes); got != want {
		t.Fatalf("Check(%+v) of %d weights, %d biases, Need %d and %d classes = %d, want %d", x.Shape, len(h.W), len(h.Bias), h.Need, classes, got, want)
	}
	checkLook(t, x, h, classes, verdict.Verdict{}, want)
}

// head is an exit of which all weights and biases differ from their neighbours.
func head(elems, classes int, need int32) api.Head {
	h := api.Head{W: sample.Numbers(elems * classes), Need: need}
	for c := range classes {
		h.Bias = append(h.Bias, int32(c*7919%1000)-500)
	}
	return h
}

// seen is the verdict of an exit: each class is held against all others.
func seen(x []int8, h api.Head) verdict.Verdict {
	var v verdict.Verdict
	for c, b := range h.Bias {
		sum := int64(b)
		for i, number := range x {
			sum += int64(number) * int64(h.W[c*len(x)+i])
		}
		v.Logits = append(v.Logits, int32(sum))
	}
	for c := len(h.Bias) - 1; c >= 0; c-- {
		ahead := int64(math.MaxInt64)
		for other, logit := range v.Logits {
			if other != c {
				ahead = min(ahead, int64(v.Logits[c])-int64(logit))
			}
		}
		// Where two are equal, both are ahead by 0, and the first one is visited last.
		if ahead >= 0 {
			v.Class, v.Margin = c, int(ahead)
		}
	}
	v.Enough = v.Margin >= int(h.Need)
	return v
}

// P30.2: verdicts written out.
func TestLookByHand(t *testing.T) {
	number := func(l ...int8) api.Tensor { return api.Tensor{Shape: api.Shape{H: 1, W: 1, C: len(l)}, Data: l} }
	for _, c := range []struct {
		x    api.Tensor
		h    api.Head
		want verdict.Verdict
	}{
		{number(2), api.Head{W: []int8{3, -1}, Bias: []int32{0, 0}}, verdict.Verdict{Class: 0, Margin: 8, Logits: []int32{6, -2}, Enough: true}},
		{number(2), api.Head{W: []int8{3, -1}, Bias: []int32{0, 0}, Need: 8}, verdict.Verdict{Class: 0, Margin: 8, Logits: []int32{6, -2}, Enough: true}},
		{number(2), api.Head{W: []int8{3, -1}, Bias: []int32{0, 0}, Need: 9}, verdict.Verdict{Class: 0, Margin: 8, Logits: []int32{6, -2}}},
		{number(2), api.Head{W: []int8{3, -1}, Bias: []int32{0, 9}, Need: 1}, verdict.Verdict{Class: 1, Margin: 1, Logits: []int32{6, 7}, Enough: true}},
		{number(5, 6), api.Head{W: []int8{1, 2, 3, 4}, Bias: []int32{0, 0}, Need: 23}, verdict.Verdict{Class: 1, Margin: 22, Logits: []int32{17, 39}}},
		// Of equal ones the first is the class, and a Need of 0 is enough.
		{number(2), api.Head{W: []int8{3, 3}, Bias: []int32{1, 1}}, verdict.Verdict{Class: 0, Margin: 0, Logits: []int32{7, 7}, Enough: true}},
		{number(2), api.Head{W: []int8{0, 3, 1, 3}, Bias: []int32{1, 1, 5, 1}}, verdict.Verdict{Class: 1, Margin: 0, Logits: []int32{1, 7, 7, 7}, Enough: true}},
		{number(2), api.Head{W: []int8{0, 3, 1, 3}, Bias: []int32{1, 1, 5, 1}, Need: 1}, verdict.Verdict{Class: 1, Margin: 0, Logits: []int32{1, 7, 7, 7}}},
		{number(-1), api.Head{W: []int8{1, 2, 3}, Bias: []int32{-9, -9, -9}, Need: 1}, verdict.Verdict{Class: 0, Margin: 1, Logits: []int32{-10, -11, -12}, Enough: true}},
		// A margin that 32 bits do not hold, and Logits modulo 2 to the power of 32.
		{number(0), api.Head{W: []int8{0, 0}, Bias: []int32{least, most}, Need: most}, verdict.Verdict{Class: 1, Margin: 1<<32 - 1, Logits: []int32{least, most}, Enough: true}},
		{number(1), api.Head{W: []int8{0, 0}, Bias: []int32{-1, most - 1}, Need: most}, verdict.Verdict{Class: 1, Margin: most, Logits: []int32{-1, most - 1}, Enough: true}},
		{number(1), api.Head{W: []int8{0, 0}, Bias: []int32{0, most - 1}, Need: most}, verdict.Verdict{Class: 1, Margin: most - 1, Logits: []int32{0, most - 1}}},
		{number(1), api.Head{W: []int8{1, 0}, Bias: []int32{most, 0}, Need: 5}, verdict.Verdict{Class: 1, Margin: 1 << 31, Logits: []int32{least, 0}, Enough: true}},
	} {
		checkLook(t, c.x, c.h, len(c.h.Bias), c.want, api.OK)
		if !same(seen(c.x.Data, c.h), c.want) {
			t.Errorf("the test's own verdict of %+v is %+v", c.h, seen(c.x.Data, c.h))
		}
	}
}

// P30.1, P30.2: tensors of all sorts, each number of classes, and Needs on both sides of the margin.
func TestLook(t *testing.T) {
	enough := map[bool]int{}
	for _, x := range sample.Tensors() {
		for classes := 2; classes <= api.MaxClasses; classes++ {
			margin := seen(x.Data, head(len(x.Data), classes, 0)).Margin
			for _, need := range []int{0, 1, margin - 1, margin, margin + 1, most} {
				h := head(len(x.Data), classes, int32(max(need, 0)))
				if err := verdict.Check(x.Shape, h, classes); err != api.OK {
					t.Fatalf("Check of %+v with %d classes = %d", x.Shape, classes, err)
				}
				want := seen(x.Data, h)
				checkLook(t, x, h, classes, want, api.OK)
				enough[want.Enough]++
			}
		}
	}
	if enough[true] == 0 || enough[false] == 0 {
		t.Errorf("enough: %v", enough)
	}
}

// P30.1: the first of what is wrong is told, whatever else is wrong too.
func TestWrongExits(t *testing.T) {
	wrongWeights := []func(h *api.Head){
		func(h *api.Head) { h.W = append(slices.Clone(h.W), 0) },
		func(h *api.Head) { h.W = h.W[1:] },
		func(h *api.Head) { h.W = nil },
		func(h *api.Head) { h.W = slices.Concat(h.W, h.W) },
		func(h *api.Head) { h.Bias = append(slices.Clone(h.Bias), 0) },
		func(h *api.Head) { h.Bias = h.Bias[1:] },
		func(h *api.Head) { h.Bias = nil },
		func(h *api.Head) { h.W, h.Bias = nil, nil },
		// As many weights and biases as one more class has, and one fewer.
		func(h *api.Head) { *h = head(len(h.W)/len(h.Bias), len(h.Bias)+1, h.Need) },
		func(h *api.Head) { *h = head(len(h.W)/len(h.Bias), len(h.Bias)-1, h.Need) },
		func(h *api.Head) { *h = head(len(h.W)/len(h.Bias)+1, len(h.Bias), h.Need) },
	}
	wrongClasses := append([]int{0, 1, 17, 18, 64}, sample.Far()...)
	for _, x := range sample.Tensors() {
		for _, classes := range []int{2, 3, 15, 16} {
			for _, need := range []int32{-1, -2, least} {
				right := head(len(x.Data), classes, 0)
				late := right
				late.Need = need
				checkWrong(t, x, late, classes, api.ErrExit)
				for _, spoil := range wrongWeights {
					for _, h := range []api.Head{right, late} {
						spoil(&h)
						checkWrong(t, x, h, classes, api.ErrWeights)
						checkWrong(t, x, h, 1, api.ErrArg)
					}
				}
				for _, wrong := range wrongClasses {
					checkWrong(t, x, right, wrong, api.ErrArg)
					checkWrong(t, x, late, wrong, api.ErrArg)
				}
			}
		}
	}
	// An exit of one class, and of seventeen, that would have the right weights.
	one := api.Tensor{Shape: api.Shape{H: 1, W: 1, C: 3}, Data: []int8{1, 2, 3}}
	for _, classes := range []int{1, 17} {
		checkWrong(t, one, head(3, classes, 0), classes, api.ErrArg)
	}
}

// P30.1, P30.2: an invalid shape, or an invalid tensor, comes before all else.
func TestWrongShapes(t *testing.T) {
	for _, classes := range append([]int{0, 1, 2, 16, 17}, sample.Far()...) {
		for _, h := range []api.Head{{}, {Need: -1}, head(1, 2, 0), head(1, 2, -1), head(2, 16, 5)} {
			for _, s := range sample.WrongShapes() {
				if err := verdict.Check(s, h, classes); err != api.ErrShape {
					t.Errorf("Check(%+v) = %d", s, err)
				}
			}
			for _, x := range sample.WrongTensors() {
				checkLook(t, x, h, classes, verdict.Verdict{}, api.ErrShape)
			}
		}
	}
	// The shape alone is valid, and has the right weights.
	x := api.Tensor{Shape: api.Shape{H: 2, W: 2, C: 1}, Data: []int8{1, 2, 3}}
	checkLook(t, x, head(4, 2, 0), 2, verdict.Verdict{}, api.ErrShape)
	checkLook(t, x, head(3, 2, 0), 2, verdict.Verdict{}, api.ErrShape)
	if err := verdict.Check(x.Shape, head(4, 2, 0), 2); err != api.OK {
		t.Errorf("Check of a valid shape = %d", err)
	}
}

// P30.3: a smaller Need, and other Biases that are all higher, or lower, by the same amount.
func TestNeedsAndBiases(t *testing.T) {
	for _, x := range sample.Tensors() {
		for _, need := range []int32{0, 1, 1000, 100000, most} {
			h := head(len(x.Data), 7, need)
			want, _ := verdict.Look(x, h, 7)
			for _, amount := range []int32{1, 77, 1 << 20, -1, -1 << 20} {
				moved, higher := h, want
				moved.Bias, higher.Logits = slices.Clone(h.Bias), slices.Clone(want.Logits)
				for c := range h.Bias {
					moved.Bias[c] += amount
					higher.Logits[c] += amount
				}
				checkLook(t, x, moved, 7, higher, api.OK)
			}
			for _, smaller := range []int32{0, need / 2, max(need-1, 0)} {
				h.Need = smaller
				if got, _ := verdict.Look(x, h, 7); want.Enough && !got.Enough {
					t.Errorf("enough with Need %d, not enough with %d", need, smaller)
				}
			}
		}
	}
}

// Rule 2: what is passed stays as it is, up to its capacity, and shares nothing with what is told.
func TestNothingIsShared(t *testing.T) {
	for _, right := range sample.Tensors() {
		plain := head(len(right.Data), 5, 9)
		x, h := right, plain
		x.Data, h.W, h.Bias = sample.Wide(right.Data), sample.Wide(plain.W), append(slices.Clone(plain.Bias), 77)[:5]
		first, _ := verdict.Look(x, h, 5)
		second, _ := verdict.Look(x, h, 5)
		verdict.Check(x.Shape, h, 5)
		clear(first.Logits[:cap(first.Logits)])
		kept := slices.Equal(x.Data[:len(x.Data)+3], sample.Wide(right.Data)[:len(x.Data)+3]) &&
			slices.Equal(h.W[:len(h.W)+3], sample.Wide(plain.W)[:len(h.W)+3]) && slices.Equal(h.Bias[:6], append(slices.Clone(plain.Bias), 77))
		if !kept {
			t.Errorf("what was passed for %+v changed", right.Shape)
		}
		clear(x.Data)
		clear(h.W)
		clear(h.Bias)
		if !same(second, seen(right.Data, plain)) {
			t.Errorf("a verdict of %+v changed with what was passed", right.Shape)
		}
	}
}
