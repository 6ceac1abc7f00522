package join_test

import (
	"math"
	"math/big"
	"slices"
	"testing"

	"stepwell/api"
	"stepwell/join"
	"stepwell/sample"
	"stepwell/shape"
)

const max32 = math.MaxInt32

var (
	rightScales = sample.Scales()
	wrongScales = sample.WrongScales()
	reaches     = sample.Reaches()
)

// numbers is numbers at both limits, around 0, and between.
var numbers = []int8{-128, -127, -100, -51, -3, -2, -1, 0, 1, 2, 3, 4, 77, 126, 127}

func check(t *testing.T, call string, got api.Tensor, err api.Errno, want api.Tensor, wantErr api.Errno) {
	t.Helper()
	if err != wantErr || got.Shape != want.Shape || !slices.Equal(got.Data, want.Data) {
		t.Fatalf("%s = %+v, %d, want %+v, %d", call, got, err, want, wantErr)
	}
}

// scaled is how far v is from zero by a scale, without limits: the size and half a step, by the step.
func scaled(v, zero int8, q api.Quant) *big.Int {
	product := new(big.Int).Mul(big.NewInt(int64(v)-int64(zero)), big.NewInt(int64(q.Mult)))
	step := new(big.Int).Lsh(big.NewInt(1), uint(q.Shift))
	size := new(big.Int).Abs(product)
	size.Add(size.Lsh(size, 1), step).Quo(size, step.Lsh(step, 1))
	if product.Sign() < 0 {
		size.Neg(size)
	}
	return size
}

// joined is two numbers as one, without limits but the last.
func joined(x, y int8, n api.Node) int8 {
	sum := scaled(x, n.ZA, n.Q)
	sum.Add(sum, scaled(y, n.ZB, n.R)).Add(sum, big.NewInt(int64(n.Q.Zero)))
	if sum.Cmp(big.NewInt(int64(n.Lo))) < 0 {
		return n.Lo
	}
	if sum.Cmp(big.NewInt(int64(n.Hi))) > 0 {
		return n.Hi
	}
	return int8(sum.Int64())
}

// nodes visits nodes with all valid scales, with several zeros and limits.
func nodes(visit func(n api.Node)) {
	for _, q := range rightScales {
		for _, r := range rightScales {
			for i, reach := range reaches {
				visit(api.Node{Q: q, R: r, ZA: numbers[i], ZB: numbers[2*i%len(numbers)], Lo: reach[0], Hi: reach[1]})
			}
		}
	}
}

// P20.1: numbers written out.
func TestOneByHand(t *testing.T) {
	one := api.Quant{Mult: 1}
	half := api.Quant{Mult: 1, Shift: 1}
	most := api.Quant{Mult: max32}
	for _, c := range []struct {
		x, y int8
		n    api.Node
		want int8
	}{
		{3, 4, api.Node{Q: api.Quant{Mult: 1, Zero: 1}, R: api.Quant{Mult: 1, Zero: 1}, Lo: -128, Hi: 127}, 8},
		// The zero of R is not added.
		{3, 4, api.Node{Q: one, R: api.Quant{Mult: 1, Zero: 100}, Lo: -128, Hi: 127}, 7},
		// Each number is rounded by itself.
		{1, 1, api.Node{Q: half, R: half, Lo: -128, Hi: 127}, 2},
		{-1, -1, api.Node{Q: half, R: half, Lo: -128, Hi: 127}, -2},
		{1, -1, api.Node{Q: half, R: half, Lo: -128, Hi: 127}, 0},
		{4, 3, api.Node{Q: api.Quant{Mult: 1, Shift: 1, Zero: 1}, R: api.Quant{Mult: 2}, ZA: 1, ZB: 2, Lo: -10, Hi: 10}, 5},
		{10, 20, api.Node{Q: one, R: half, ZA: 3, ZB: 5, Lo: -128, Hi: 127}, 15},
		{20, 10, api.Node{Q: one, R: half, ZA: 3, ZB: 5, Lo: -128, Hi: 127}, 20},
		{-128, -128, api.Node{Q: one, R: one, ZA: 127, ZB: 127, Lo: -128, Hi: 127}, -128},
		{-128, 127, api.Node{Q: one, R: one, ZA: 127, ZB: -128, Lo: -128, Hi: 127}, 0},
		// Sums far beyond 32 bits, that also leave each other.
		{127, 127, api.Node{Q: most, R: most, ZA: -128, ZB: -128, Lo: -7, Hi: 9}, 9},
		{-128, -128, api.Node{Q: most, R: most, ZA: 127, ZB: 127, Lo: -7, Hi: 9}, -7},
		{127, -128, api.Node{Q: most, R: most, ZA: -128, ZB: 127, Lo: -7, Hi: 9}, 0},
		{2, 0, api.Node{Q: api.Quant{Mult: 1 << 30}, R: api.Quant{Mult: 1 << 30}, ZB: -2, Lo: -7, Hi: 9}, 9},
		// The limits hold for what all three add up to.
		{50, -60, api.Node{Q: api.Quant{Mult: 1, Zero: 10}, R: one, Lo: 0, Hi: 20}, 0},
		{50, -40, api.Node{Q: api.Quant{Mult: 1, Zero: 5}, R: one, Lo: 0, Hi: 20}, 15},
		{100, -50, api.Node{Q: api.Quant{Mult: 2, Zero: -50}, R: api.Quant{Mult: 3}, Lo: -128, Hi: 127}, 0},
		// A Lo above Hi: what is not below Lo is above Hi.
		{3, 0, api.Node{Q: one, R: one, Lo: 4, Hi: -4}, 4},
		{4, 0, api.Node{Q: one, R: one, Lo: 4, Hi: -4}, -4},
		{-9, 0, api.Node{Q: one, R: one, Lo: 4, Hi: -4}, 4},
		{0, 0, api.Node{Q: one, R: one}, 0},
		{7, 0, api.Node{Q: one, R: one}, 0},
	} {
		if got := join.One(c.x, c.y, c.n); got != c.want {
			t.Errorf("One(%d, %d, %+v) = %d, want %d", c.x, c.y, c.n, got, c.want)
		}
	}
}

// P20.1, against a calculation without limits.
func TestOne(t *testing.T) {
	nodes(func(n api.Node) {
		for _, x := range numbers {
			for _, y := range numbers {
				if got, want := join.One(x, y, n), joined(x, y, n); got != want {
					t.Fatalf("One(%d, %d, %+v) = %d, want %d", x, y, n, got, want)
				}
			}
		}
	})
}

// P20.1, P20.2: a wrong Q, a wrong R, or both.
func TestWrongScales(t *testing.T) {
	a := sample.Tensor(api.Shape{H: 2, W: 3, C: 4})
	wrong := func(q, r api.Quant) {
		n := api.Node{Q: q, R: r, ZA: 3, ZB: -4, Lo: 50, Hi: 100}
		if got := join.One(60, 70, n); got != 0 {
			t.Errorf("One(60, 70, %+v) = %d, want 0", n, got)
		}
		got, err := join.Of(a, a, n)
		check(t, "Of", got, err, api.Tensor{}, api.ErrQuant)
	}
	for _, q := range wrongScales {
		for _, r := range rightScales {
			wrong(q, r)
			wrong(r, q)
		}
		for _, r := range wrongScales {
			wrong(q, r)
		}
	}
}

// P20.2: all sorts of tensors.
func TestOf(t *testing.T) {
	i := 0
	tensors := sample.Tensors()
	nodes(func(n api.Node) {
		a := tensors[i%len(tensors)]
		b := api.Tensor{Shape: a.Shape, Data: slices.Clone(a.Data)}
		slices.Reverse(b.Data)
		i++
		want := api.Tensor{Shape: a.Shape}
		for at := range a.Data {
			want.Data = append(want.Data, joined(a.Data[at], b.Data[at], n))
		}
		got, err := join.Of(a, b, n)
		check(t, "Of", got, err, want, api.OK)
	})
}

// P20.2: other shapes, though as many numbers; they come before what may be wrong with the scales.
func TestOtherShapes(t *testing.T) {
	right := api.Node{Q: rightScales[0], R: rightScales[0], Lo: -128, Hi: 127}
	refused := 0
	shapes := append(sample.Shapes(), api.Shape{H: 3, W: 2, C: 4}, api.Shape{H: 4, W: 2, C: 3}, api.Shape{H: 1, W: 1, C: 24}, api.Shape{H: 2, W: 3, C: 5})
	for _, s := range shapes {
		for _, other := range shapes {
			if s == other {
				continue
			}
			refused++
			for _, n := range []api.Node{right, {}} {
				got, err := join.Of(sample.Tensor(s), sample.Tensor(other), n)
				check(t, "Of other shapes", got, err, api.Tensor{}, api.ErrShape)
			}
		}
	}
	if refused == 0 {
		t.Error("no shapes differ")
	}
}

// P20.2: a wrong tensor on either side, or the same on both; it comes before what may be wrong with the scales.
func TestWrongTensors(t *testing.T) {
	right := api.Node{Q: rightScales[0], R: rightScales[0], Lo: -128, Hi: 127}
	for _, x := range sample.WrongTensors() {
		y := sample.Tensor(api.Shape{H: 1, W: 1, C: 1})
		if shape.Right(x.Shape) {
			y = sample.Tensor(x.Shape)
		}
		for _, n := range []api.Node{right, {}} {
			for _, both := range [][2]api.Tensor{{x, y}, {y, x}, {x, x}} {
				got, err := join.Of(both[0], both[1], n)
				check(t, "Of a wrong tensor", got, err, api.Tensor{}, api.ErrShape)
			}
		}
	}
}

// P20.1, P20.2: the other fields of a node do not matter.
func TestOtherFields(t *testing.T) {
	a := sample.Tensor(api.Shape{H: 2, W: 3, C: 4})
	n := api.Node{Q: api.Quant{Mult: 3, Shift: 2, Zero: 7}, R: api.Quant{Mult: 1, Shift: 1, Zero: -9}, ZA: 4, ZB: -5, Lo: -100, Hi: 99}
	want, _ := join.Of(a, a, n)
	for _, far := range append([]int{0, 1, 3}, sample.Far()...) {
		n.Kind, n.A, n.B, n.K, n.S, n.P, n.Out = far, far, far, far, far, far, far
		n.W, n.Bias = sample.Numbers(9), []int32{max32}
		n.R.Zero++
		got, err := join.Of(a, a, n)
		check(t, "Of", got, err, want, api.OK)
		if one := join.One(a.Data[5], a.Data[5], n); one != want.Data[5] {
			t.Fatalf("One = %d, want %d", one, want.Data[5])
		}
	}
}

// P20.3: Q's zero is what is added, so that it stays with the sum.
func TestExchanged(t *testing.T) {
	nodes(func(n api.Node) {
		n.R.Zero = n.Q.Zero
		back := n
		back.Q, back.R, back.ZA, back.ZB = n.R, n.Q, n.ZB, n.ZA
		for _, x := range numbers {
			for _, y := range numbers {
				if got, want := join.One(y, x, back), join.One(x, y, n); got != want {
					t.Fatalf("One(%d, %d, %+v) = %d, exchanged %d", x, y, n, want, got)
				}
			}
		}
		a := sample.Tensor(api.Shape{H: 3, W: 3, C: 3})
		b := api.Tensor{Shape: a.Shape, Data: slices.Repeat([]int8{9, -128, 127}, 9)}
		want, wantErr := join.Of(a, b, n)
		got, err := join.Of(b, a, back)
		check(t, "Of exchanged", got, err, want, wantErr)
	})
}

// P20.4: as far as Lo is not above Hi.
func TestMonotonic(t *testing.T) {
	nodes(func(n api.Node) {
		if n.Lo > n.Hi {
			return
		}
		for _, fixed := range numbers {
			for v := math.MinInt8; v < math.MaxInt8; v++ {
				if join.One(int8(v), fixed, n) > join.One(int8(v+1), fixed, n) || join.One(fixed, int8(v), n) > join.One(fixed, int8(v+1), n) {
					t.Fatalf("One of %d and %d falls after %d, with %+v", v+1, fixed, v, n)
				}
			}
		}
	})
}

// Rule 2: what is passed stays as it is, up to its capacity, and shares nothing with a result, nor do two results.
func TestNothingIsShared(t *testing.T) {
	n := api.Node{Q: rightScales[0], R: rightScales[0], Lo: -128, Hi: 127, W: []int8{5}, Bias: []int32{6}}
	a := sample.Tensor(api.Shape{H: 1, W: 1, C: 9})
	b := api.Tensor{Shape: a.Shape, Data: make([]int8, 9)}
	kept := slices.Clone(a.Data)
	a.Data, b.Data = sample.Wide(a.Data), sample.Wide(b.Data)
	first, _ := join.Of(a, b, n)
	second, _ := join.Of(a, b, n)
	clear(first.Data[:cap(first.Data)])
	if !slices.Equal(a.Data[:12], append(slices.Clone(kept), 101, 102, 103)) || !slices.Equal(b.Data[:12], append(make([]int8, 9), 101, 102, 103)) {
		t.Errorf("what was passed changed: %d, %d", a.Data[:12], b.Data[:12])
	}
	clear(a.Data)
	b.Data[0] = 9
	if !slices.Equal(second.Data, kept) || n.W[0] != 5 || n.Bias[0] != 6 {
		t.Errorf("a result changed with another list: %d", second.Data)
	}
	// One tensor on both sides.
	twice, err := join.Of(second, second, n)
	if err != api.OK || !slices.Equal(second.Data, kept) || twice.Data[4] != joined(kept[4], kept[4], n) {
		t.Errorf("a tensor with itself: %+v, %d", twice, err)
	}
}
