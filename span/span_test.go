package span_test

import (
	"math"
	"slices"
	"testing"

	"stepwell/api"
	"stepwell/conv"
	"stepwell/fix"
	"stepwell/sample"
	"stepwell/span"
	"stepwell/tensor"
)

const (
	min32 = math.MinInt32
	max32 = math.MaxInt32
)

// P24.1: numbers written out.
func TestRowByHand(t *testing.T) {
	for _, c := range []struct {
		w         []int8
		bias      int32
		lo, hi, z int8
		gaps      bool
		want      span.Range
	}{
		{[]int8{2, -3}, 1, 0, 10, 0, false, span.Range{Lo: -29, Hi: 21}},
		{[]int8{2, -3}, 1, 0, 10, 0, true, span.Range{Lo: -29, Hi: 21}},
		{[]int8{2, -3}, 1, 0, 10, 5, false, span.Range{Lo: -24, Hi: 26}},
		{[]int8{2, -3}, 1, 0, 10, 5, true, span.Range{Lo: -24, Hi: 26}},
		// Where no number is z, each weight contributes something, but for a gap.
		{[]int8{2, -3}, 1, 3, 10, 0, false, span.Range{Lo: -23, Hi: 12}},
		{[]int8{2, -3}, 1, 3, 10, 0, true, span.Range{Lo: -29, Hi: 21}},
		{[]int8{2}, 100, 3, 10, 20, false, span.Range{Lo: 66, Hi: 80}},
		{[]int8{2}, 100, 3, 10, 20, true, span.Range{Lo: 66, Hi: 100}},
		{[]int8{-2}, 100, 3, 10, 20, false, span.Range{Lo: 120, Hi: 134}},
		{[]int8{-2}, 100, 3, 10, 20, true, span.Range{Lo: 100, Hi: 134}},
		// Exchanged limits, and equal ones.
		{[]int8{2, -3}, 1, 10, 0, 0, false, span.Range{Lo: -29, Hi: 21}},
		{[]int8{2, -3}, 1, 10, 3, 0, true, span.Range{Lo: -29, Hi: 21}},
		{[]int8{2, -3}, 1, 7, 7, 0, false, span.Range{Lo: -6, Hi: -6}},
		{[]int8{2, -3}, 1, 7, 7, 0, true, span.Range{Lo: -20, Hi: 15}},
		{[]int8{2, -3}, 1, 7, 7, 7, true, span.Range{Lo: 1, Hi: 1}},
		// No weights, and weights that are 0.
		{nil, -7, -128, 127, 5, true, span.Range{Lo: -7, Hi: -7}},
		{[]int8{0, 0}, -7, -128, 127, 5, false, span.Range{Lo: -7, Hi: -7}},
		// The limits of all numbers.
		{[]int8{-128}, min32, -128, 127, 127, false, span.Range{Lo: min32, Hi: min32 + 32640}},
		{[]int8{-128}, max32, -128, 127, -128, false, span.Range{Lo: max32 - 32640, Hi: max32}},
		{[]int8{127}, max32, -128, 127, -128, false, span.Range{Lo: max32, Hi: max32 + 32385}},
		{[]int8{127}, min32, 127, -128, 127, true, span.Range{Lo: min32 - 32385, Hi: min32}},
	} {
		if got := span.Row(c.w, c.bias, c.lo, c.hi, c.z, c.gaps); got != c.want {
			t.Errorf("Row(%d, %d, %d, %d, %d, %t) = %+v, want %+v", c.w, c.bias, c.lo, c.hi, c.z, c.gaps, got, c.want)
		}
	}
}

// P24.1: a row whose sums leave 32 bits by far.
func TestLongRow(t *testing.T) {
	const size = 200000
	w := make([]int8, size)
	for i := range w {
		w[i] = []int8{-128, 127}[i%2]
	}
	want := span.Range{Lo: min32 - size/2*128*127, Hi: min32 + size/2*128*128}
	want.Lo -= size / 2 * 127 * 128
	want.Hi += size / 2 * 127 * 127
	if got := span.Row(w, min32, -128, 127, 0, false); got != want {
		t.Errorf("Row of %d weights = %+v, want %+v", size, got, want)
	}
}

// attained is the sums of all numbers from lo to hi, from the least to the greatest, by trying each of them.
func attained(w []int8, bias int32, lo, hi, z int8, gaps bool) []int {
	sums := []int{int(bias)}
	for _, weight := range w {
		var terms []int
		for v := int(min(lo, hi)); v <= int(max(lo, hi)); v++ {
			terms = append(terms, int(weight)*(v-int(z)))
		}
		if gaps {
			terms = append(terms, 0)
		}
		var more []int
		for _, sum := range sums {
			for _, term := range terms {
				more = append(more, sum+term)
			}
		}
		slices.Sort(more)
		sums = slices.Compact(more)
	}
	return sums
}

// P24.1, P24.5: what all numbers add up to.
func TestRowIsAttained(t *testing.T) {
	for _, w := range [][]int8{nil, {0}, {1}, {-1}, {127}, {-128}, {5, -7}, {-128, 127}, {3, 0, -2}, {9, 9, 9}, {-1, -1, -1}} {
		for _, reach := range [][2]int8{{0, 10}, {-3, 3}, {5, 5}, {100, 127}, {-128, -120}, {10, 0}, {127, 120}} {
			for _, z := range []int8{-128, -1, 0, 4, 5, 127} {
				for _, gaps := range []bool{false, true} {
					sums := attained(w, 77, reach[0], reach[1], z, gaps)
					want := span.Range{Lo: sums[0], Hi: sums[len(sums)-1]}
					if got := span.Row(w, 77, reach[0], reach[1], z, gaps); got != want {
						t.Fatalf("Row(%d, 77, %d, %d, %t) = %+v, want %+v", w, reach, z, gaps, got, want)
					}
				}
			}
		}
	}
}

// P24.2: numbers written out.
func TestAllByHand(t *testing.T) {
	w := []int8{1, 1, -1, -1, 2, 0}
	for _, c := range []struct {
		n    api.Node
		want []span.Range
	}{
		{api.Node{W: w[:4], Bias: []int32{0, 5}}, []span.Range{{Lo: -256, Hi: 254}, {Lo: 5 - 254, Hi: 5 + 256}}},
		{api.Node{W: w, Bias: []int32{0, 5}}, []span.Range{{Lo: -128 - 128 - 127, Hi: 127 + 127 + 128}, {Lo: 5 - 127 - 256, Hi: 5 + 128 + 254}}},
		{api.Node{W: w, Bias: []int32{1, 2, 3}, ZA: 27}, []span.Range{{Lo: 1 - 310, Hi: 1 + 200}, {Lo: 2 - 200, Hi: 2 + 310}, {Lo: 3 - 310, Hi: 3 + 200}}},
		{api.Node{W: w, Bias: []int32{7}}, []span.Range{{Lo: 7 - 4*128 - 2*127, Hi: 7 + 4*127 + 2*128}}},
		{api.Node{Bias: []int32{7, -7}}, []span.Range{{Lo: 7, Hi: 7}, {Lo: -7, Hi: -7}}},
		{api.Node{W: w}, nil}, {api.Node{}, nil}, {api.Node{W: w, Bias: []int32{}}, nil},
		{api.Node{W: w, Bias: make([]int32, 4)}, nil}, {api.Node{W: w[:5], Bias: make([]int32, 2)}, nil}, {api.Node{W: w, Bias: make([]int32, 7)}, nil}, {api.Node{W: w, Bias: make([]int32, 12)}, nil},
	} {
		if got := span.All(c.n, -128, 127); !slices.Equal(got, c.want) {
			t.Errorf("All(%+v, -128, 127) = %+v, want %+v", c.n, got, c.want)
		}
	}
}

// P24.2: the weights of each Bias, its gaps, and no other field.
func TestAll(t *testing.T) {
	for _, p := range append([]int{0, 1, 4}, sample.Far()...) {
		for _, reach := range sample.Reaches() {
			right := sample.Node(3, 2, 1, 0, 5)
			right.P = p
			var want []span.Range
			for o, bias := range right.Bias {
				want = append(want, span.Row(right.W[12*o:12*o+12], bias, reach[0], reach[1], right.ZA, p > 0))
			}
			if got := span.All(right, reach[0], reach[1]); !slices.Equal(got, want) {
				t.Fatalf("All with P %d, %d = %+v, want %+v", p, reach, got, want)
			}
			sample.Others(right, func(n api.Node) {
				n.K, n.S, n.Out = p, p, p
				if got := span.All(n, reach[0], reach[1]); !slices.Equal(got, want) {
					t.Fatalf("All(%+v) = %+v, want %+v", n, got, want)
				}
			})
		}
	}
}

// light is a node of which no sum leaves 32 bits.
func light(channels, k, p, out int) api.Node {
	n := sample.Node(channels, k, 1, p, out)
	for o := range n.Bias {
		n.Bias[o] /= 1000
	}
	return n
}

// P24.5: what a convolution adds up lies within the ranges of its channels.
func TestSumsAreWithin(t *testing.T) {
	for _, x := range sample.Tensors() {
		lo, hi := tensor.Reach(x)
		for k := 1; k <= 3; k++ {
			for p := range k {
				n := light(x.Shape.C, k, p, 3)
				a, err := conv.Of(x, n)
				if err != api.OK {
					continue
				}
				ranges := span.All(n, lo, hi)
				for i, sum := range a.Data {
					if r := ranges[i%3]; int(sum) < r.Lo || int(sum) > r.Hi {
						t.Fatalf("%d of %+v with K %d and P %d is not within %+v", sum, x.Shape, k, p, r)
					}
				}
			}
		}
	}
}

// P24.5: a window where the numbers are such that they attain the minimum, or the maximum, also beside the border.
func TestSumsAttainTheEnds(t *testing.T) {
	for p := range 2 {
		n := light(2, 3, p, 1)
		for _, reach := range [][2]int8{{-128, 127}, {-5, 9}, {40, 90}} {
			least, greatest := ends(n, reach[0], reach[1])
			r := span.All(n, reach[0], reach[1])[0]
			if p > 0 && reach[0] > n.ZA {
				// Here less is attained only by a window with gaps in its midst, which no tensor has.
				continue
			}
			low, _ := conv.Of(least, n)
			high, err := conv.Of(greatest, n)
			if err != api.OK || int(slices.Min(low.Data)) != r.Lo || int(slices.Max(high.Data)) != r.Hi {
				t.Fatalf("P %d, %d: from %d to %d, want %+v", p, reach, low.Data, high.Data, r)
			}
		}
	}
}

// ends is the numbers of a window from lo to hi that add up to the least sum, and to the greatest one.
func ends(n api.Node, lo, hi int8) (api.Tensor, api.Tensor) {
	s := api.Shape{H: 3, W: 3, C: 2}
	least, greatest := api.Tensor{Shape: s}, api.Tensor{Shape: s}
	for _, weight := range n.W {
		small, great := lo, hi
		if weight < 0 {
			small, great = hi, lo
		}
		least.Data, greatest.Data = append(least.Data, small), append(greatest.Data, great)
	}
	return least, greatest
}

// P24.3
func TestHolds(t *testing.T) {
	whole := span.Range{Lo: min32, Hi: max32}
	for _, c := range []struct {
		l    []span.Range
		want bool
	}{
		{nil, true}, {[]span.Range{}, true}, {[]span.Range{{}}, true}, {[]span.Range{whole}, true}, {[]span.Range{whole, {Lo: 5, Hi: 9}, whole}, true},
		{[]span.Range{{Lo: min32 - 1}}, false}, {[]span.Range{{Hi: max32 + 1}}, false}, {[]span.Range{{Lo: min32 - 1, Hi: max32 + 1}}, false},
		{[]span.Range{{Lo: math.MinInt64}}, false}, {[]span.Range{{Hi: math.MaxInt64}}, false}, {[]span.Range{{Lo: -1 << 32, Hi: 0}}, false}, {[]span.Range{{Lo: 0, Hi: 1 << 32}}, false},
		{[]span.Range{{}, whole, {Hi: max32 + 1}}, false}, {[]span.Range{{Lo: min32 - 1}, whole, {}}, false}, {[]span.Range{{}, {Lo: min32 - 1}, {}}, false},
		// Exchanged: only a Lo that is too small counts, and a Hi that is too great.
		{[]span.Range{{Lo: max32 + 1, Hi: min32 - 1}}, true},
	} {
		if got := span.Holds(c.l); got != c.want {
			t.Errorf("Holds(%+v) = %t", c.l, got)
		}
	}
}

// P24.3
func TestBoth(t *testing.T) {
	for _, c := range []struct {
		l    []span.Range
		want span.Range
	}{
		{nil, span.Range{}}, {[]span.Range{}, span.Range{}}, {[]span.Range{{Lo: 5, Hi: 9}}, span.Range{Lo: 5, Hi: 9}}, {[]span.Range{{Lo: -9, Hi: -5}}, span.Range{Lo: -9, Hi: -5}},
		{[]span.Range{{Lo: 5, Hi: 9}, {Lo: 3, Hi: 4}, {Lo: 7, Hi: 12}}, span.Range{Lo: 3, Hi: 12}}, {[]span.Range{{Lo: -5, Hi: -1}, {Lo: -9, Hi: -8}}, span.Range{Lo: -9, Hi: -1}},
		{[]span.Range{{Lo: math.MinInt64, Hi: 0}, {Lo: 0, Hi: math.MaxInt64}}, span.Range{Lo: math.MinInt64, Hi: math.MaxInt64}},
		// Exchanged: a Lo is a Lo, however great.
		{[]span.Range{{Lo: 9, Hi: 5}}, span.Range{Lo: 9, Hi: 5}}, {[]span.Range{{Lo: 9, Hi: 5}, {Lo: 8, Hi: 6}}, span.Range{Lo: 8, Hi: 6}},
	} {
		if got := span.Both(c.l); got != c.want {
			t.Errorf("Both(%+v) = %+v, want %+v", c.l, got, c.want)
		}
	}
}

// P24.4: numbers written out.
func TestAfterByHand(t *testing.T) {
	one, half, tiny := api.Quant{Mult: 1}, api.Quant{Mult: 1 << 30, Shift: 31, Zero: 3}, api.Quant{Mult: 100, Shift: 31, Zero: -1}
	whole := span.Range{Lo: math.MinInt64, Hi: math.MaxInt64}
	for _, c := range []struct {
		r            span.Range
		q            api.Quant
		lo, hi       int8
		least, great int8
	}{
		{span.Range{Lo: -9, Hi: 9}, one, 0, 5, 0, 5}, {span.Range{Lo: -9, Hi: 9}, one, -128, 127, -9, 9}, {span.Range{Lo: -9, Hi: 9}, half, -128, 127, -2, 8}, {span.Range{Lo: 4, Hi: 4}, half, -128, 127, 5, 5}, {span.Range{}, half, -128, 127, 3, 3},
		{whole, one, -128, 127, -128, 127}, {whole, one, 3, 3, 3, 3}, {span.Range{Lo: 9, Hi: 1000}, one, -5, 5, 5, 5}, {span.Range{Lo: -1000, Hi: -9}, one, -5, 5, -5, -5},
		// More than 32 bits are as many as there are, on either side.
		{whole, tiny, -128, 127, -101, 99}, {span.Range{Lo: min32 - 1, Hi: max32 + 1}, tiny, -128, 127, -101, 99}, {span.Range{Lo: -1 << 40, Hi: 1 << 40}, tiny, -128, 127, -101, 99}, {span.Range{Lo: min32, Hi: max32}, tiny, -128, 127, -101, 99},
		{span.Range{Lo: 1 << 32, Hi: 1<<32 + 5}, tiny, -128, 127, 99, 99}, {span.Range{Lo: -1<<32 - 5, Hi: -1 << 32}, tiny, -128, 127, -101, -101},
		// An exchanged range, and exchanged limits: what is not below Lo is above Hi.
		{span.Range{Lo: 9, Hi: -9}, one, -128, 127, -9, 9}, {span.Range{Lo: -9, Hi: 9}, one, 4, -4, -4, 4}, {span.Range{Lo: 5, Hi: 9}, one, 4, -4, -4, -4},
	} {
		if least, great := span.After(c.r, c.q, c.lo, c.hi); least != c.least || great != c.great {
			t.Errorf("After(%+v, %+v, %d, %d) = %d, %d, want %d, %d", c.r, c.q, c.lo, c.hi, least, great, c.least, c.great)
		}
	}
}

// P24.4: all scales and limits, against fix.Held.
func TestAfter(t *testing.T) {
	sums := []int32{min32, -1 << 20, -300, -128, -7, -1, 0, 1, 6, 127, 300, 1 << 20, max32}
	for _, q := range append(sample.Scales(), sample.WrongScales()...) {
		for _, reach := range sample.Reaches() {
			for _, lo := range sums {
				for _, hi := range sums {
					first, last := fix.Held(lo, q, reach[0], reach[1]), fix.Held(hi, q, reach[0], reach[1])
					least, great := span.After(span.Range{Lo: int(lo), Hi: int(hi)}, q, reach[0], reach[1])
					if least != min(first, last) || great != max(first, last) {
						t.Fatalf("After(%d to %d, %+v, %d) = %d, %d, want those of %d and %d", lo, hi, q, reach, least, great, first, last)
					}
				}
			}
		}
	}
}

// P24.4: a wrong scale makes 0 of every sum, also where 0 does not lie between the limits.
func TestAfterAWrongScale(t *testing.T) {
	for _, q := range sample.WrongScales() {
		if least, great := span.After(span.Range{Lo: -9, Hi: 9}, q, 5, 50); least != 0 || great != 0 {
			t.Fatalf("After with %+v = %d, %d", q, least, great)
		}
	}
}

// Rule 2: what is passed stays as it is, up to its capacity, and shares nothing with a result, nor do two results.
func TestNothingIsShared(t *testing.T) {
	n := sample.Node(2, 3, 1, 1, 4)
	weights, biases := n.W, n.Bias
	n.W, n.Bias = sample.Wide(n.W), append(slices.Clone(n.Bias), 77)[:4]
	first, second := span.All(n, -5, 9), span.All(n, -5, 9)
	want := slices.Clone(second)
	span.Row(n.W, 3, -5, 9, 1, true)
	clear(first[:cap(first)])
	if !slices.Equal(n.W[:len(n.W)+3], append(slices.Clone(weights), 101, 102, 103)) || !slices.Equal(n.Bias[:5], append(slices.Clone(biases), 77)) {
		t.Error("the node changed")
	}
	if !slices.Equal(second, want) {
		t.Error("a result changed with another one")
	}
	l := []span.Range{{Lo: 1, Hi: 2}, {Lo: -3, Hi: 4}, {Lo: 5, Hi: 6}}
	span.Both(l[:2])
	span.Holds(l[:2])
	if !slices.Equal(l, []span.Range{{Lo: 1, Hi: 2}, {Lo: -3, Hi: 4}, {Lo: 5, Hi: 6}}) {
		t.Error("the ranges changed")
	}
}
