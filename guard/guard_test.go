package guard_test

import (
	"math"
	"slices"
	"testing"

	"stepwell/act"
	"stepwell/api"
	"stepwell/fix"
	"stepwell/graph"
	"stepwell/guard"
	"stepwell/join"
	"stepwell/kinds"
	"stepwell/lot"
	"stepwell/run"
	"stepwell/sample"
	"stepwell/shape"
)

const (
	min32 = math.MinInt32
	max32 = math.MaxInt32
)

var (
	one  = api.Quant{Mult: 1}
	half = api.Quant{Mult: 1, Shift: 1, Zero: 3}
	all  = reach(-128, 127)
)

func reach(lo, hi int8) guard.Reach { return guard.Reach{Lo: lo, Hi: hi} }

// reaches is some with both limits, some with one number, and some far from 0.
func reaches() []guard.Reach {
	return []guard.Reach{all, reach(0, 127), reach(-10, 10), reach(5, 5), reach(0, 0), reach(-128, -128), reach(127, 127), reach(-100, -90), reach(90, 100), reach(-1, 0)}
}

// exchanged is reaches of no number.
func exchanged() []guard.Reach {
	return []guard.Reach{reach(1, 0), reach(127, -128), reach(-127, -128), reach(127, 126), reach(5, -5)}
}

func checkNode(t *testing.T, n api.Node, a, b, want guard.Reach, wantErr api.Errno) {
	t.Helper()
	if got, err := guard.Node(n, a, b); got != want || err != wantErr {
		t.Fatalf("Node(%+v, %+v, %+v) = %+v, %d, want %+v, %d", n, a, b, got, err, want, wantErr)
	}
}

func checkFlow(t *testing.T, l []api.Node, in guard.Reach, want []guard.Reach, wantAt int, wantErr api.Errno) {
	t.Helper()
	if got, at, err := guard.Flow(l, in); !slices.Equal(got, want) || at != wantAt || err != wantErr {
		t.Fatalf("Flow(%+v, %+v) = %+v, %d, %d, want %+v, %d, %d", l, in, got, at, err, want, wantAt, wantErr)
	}
}

func checkHead(t *testing.T, h api.Head, in guard.Reach, want api.Errno) {
	t.Helper()
	if got := guard.Head(h, in); got != want {
		t.Fatalf("Head(%+v, %+v) = %d, want %d", h, in, got, want)
	}
}

func dense(bias []int32, w ...int8) api.Node {
	return api.Node{Kind: api.Dense, Out: len(bias), W: w, Bias: bias, Q: one, Lo: -128, Hi: 127}
}

// P32.1: reaches written out.
func TestNodeByHand(t *testing.T) {
	kind := func(n api.Node, kind int) api.Node {
		n.Kind = kind
		if kind == api.Depth {
			n.Out = 0
		}
		return n
	}
	rescaled := dense([]int32{5}, 1, -1)
	rescaled.Q, rescaled.ZA, rescaled.Lo, rescaled.Hi = half, 4, -3, 7
	gaps := dense([]int32{0}, 2)
	gaps.K, gaps.S, gaps.P, gaps.Kind = 3, 1, 1, api.Conv
	joined := api.Node{Kind: api.Join, Q: half, R: one, ZA: 2, ZB: -1, Lo: -50, Hi: 60}
	for _, c := range []struct {
		n          api.Node
		a, b, want guard.Reach
	}{
		{dense([]int32{5}, 1, -1), reach(0, 10), reach(0, 0), reach(-5, 15)},
		{kind(dense([]int32{5}, 1, -1), api.Conv), reach(0, 10), reach(0, 0), reach(-5, 15)},
		{kind(dense([]int32{5}, 1, -1), api.Depth), reach(0, 10), reach(0, 0), reach(-5, 15)},
		{dense([]int32{5, -100, 7}, 1, 2, 3), reach(-1, 10), reach(0, 0), reach(-102, 37)},
		{dense([]int32{5}, 1, -1), reach(7, 7), reach(0, 0), reach(5, 5)},
		{dense([]int32{1000}, 1), all, reach(0, 0), reach(127, 127)},
		// The sums are from -5 to 15, and halves of them from -3 to 8, with 3 more.
		{rescaled, reach(0, 10), reach(0, 0), reach(0, 7)},
		// A window with a border may be without some numbers: 0 and what is from 10 to 20.
		{gaps, reach(5, 10), reach(0, 0), reach(0, 20)},
		{gaps, reach(-10, -5), reach(0, 0), reach(-20, 0)},
		{kind(gaps, api.Depth), reach(5, 10), reach(0, 0), reach(0, 20)},
		// Without biases there are no sums, and without weights there is nothing but them.
		{api.Node{Kind: api.Conv, W: []int8{1, 2}, Q: half, Lo: -9, Hi: 9}, all, reach(0, 0), reach(3, 3)},
		{api.Node{Kind: api.Dense, W: []int8{1, 2, 3}, Bias: []int32{4, 5}, Q: half, Lo: 4, Hi: 9}, all, reach(0, 0), reach(4, 4)},
		{dense([]int32{-9, 9}), all, reach(0, 0), reach(-9, 9)},
		{api.Node{Kind: api.MaxPool, K: 2, S: 1}, reach(-7, 5), reach(0, 0), reach(-7, 5)},
		{api.Node{Kind: api.AvgPool, K: 3, S: 2, P: 2}, reach(3, 5), reach(0, 0), reach(3, 5)},
		{api.Node{Kind: api.Flat}, reach(-128, -1), reach(0, 0), reach(-128, -1)},
		// From -1 to 4 by half, from 6 to 10, and 3 more; of the first ones -1.5 is rounded away from 0.
		{joined, reach(-1, 10), reach(5, 9), reach(-2+6+3, 4+10+3)},
		{joined, all, all, reach(-50, 60)},
		{joined, reach(2, 2), reach(-1, -1), reach(3, 3)},
		{api.Node{Kind: api.Act, Q: one, Hi: 127}, reach(-128, 50), reach(0, 0), reach(0, 50)},
		{api.Node{Kind: api.Act, Q: half, ZA: 1, Lo: -20, Hi: 20}, reach(-2, 10), reach(0, 0), reach(-2+3, 5+3)},
		{api.Node{Kind: api.Act, Q: one, Lo: 5, Hi: 5}, all, reach(0, 0), reach(5, 5)},
		{api.Node{Kind: api.Pad, P: 1, ZA: -3}, reach(0, 9), reach(0, 0), reach(-3, 9)},
		{api.Node{Kind: api.Pad, P: 4, ZA: 30}, reach(0, 9), reach(0, 0), reach(0, 30)},
		{api.Node{Kind: api.Pad, P: 1, ZA: 5}, reach(0, 9), reach(0, 0), reach(0, 9)},
		{api.Node{Kind: api.Pad, ZA: -3}, reach(0, 9), reach(0, 0), reach(0, 9)},
		{api.Node{Kind: api.Pad, P: -1, ZA: -3}, reach(0, 9), reach(0, 0), reach(0, 9)},
		{api.Node{Kind: api.Pad, P: math.MinInt64, ZA: 30}, reach(0, 9), reach(0, 0), reach(0, 9)},
		{api.Node{Kind: api.Pad, P: math.MaxInt64, ZA: 30}, reach(0, 9), reach(0, 0), reach(0, 30)},
	} {
		checkNode(t, c.n, c.a, c.b, c.want, api.OK)
	}
}

// P32.1: the last sums that fit 32 bits, and the first ones that do not.
func TestOver(t *testing.T) {
	for _, kind := range []int{api.Conv, api.Depth, api.Dense} {
		check := func(bias int32, p int, in guard.Reach, want api.Errno, w ...int8) {
			t.Helper()
			if p > 0 && kind == api.Dense {
				return
			}
			n := dense([]int32{0, bias, 0}, slices.Concat(make([]int8, len(w)), w, make([]int8, len(w)))...)
			n.Kind, n.P = kind, p
			if kind == api.Depth {
				n.Out = 0
			}
			got, err := guard.Node(n, in, reach(1, 0))
			if err != want || err != api.OK && got != reach(0, 0) {
				t.Fatalf("Node(%+v, %+v) = %+v, %d, want %d", n, in, got, err, want)
			}
		}
		check(max32-10, 0, reach(0, 10), api.OK, 1)
		check(max32-9, 0, reach(0, 10), api.ErrOver, 1)
		check(min32+10, 0, reach(0, 10), api.OK, -1)
		check(min32+9, 0, reach(0, 10), api.ErrOver, -1)
		check(min32+128*127, 0, all, api.OK, 127)
		check(min32+128*127-1, 0, all, api.ErrOver, 127)
		check(max32-128*128, 0, all, api.OK, -128)
		check(max32-128*128+1, 0, all, api.ErrOver, -128)
		check(max32, 0, reach(-128, 0), api.OK, 127)
		check(max32, 0, reach(-128, 1), api.ErrOver, 1)
		check(max32, 0, reach(-5, -5), api.OK, 127, 3, 0)
		check(max32, 0, reach(9, 9), api.OK, 1, -1)
		check(max32, 1, reach(9, 9), api.ErrOver, 1, -1)
		check(max32-9, 1, reach(9, 9), api.OK, 1, -1)
		check(min32, 0, reach(9, 9), api.OK, 1, -1)
		check(min32, 4, reach(9, 9), api.ErrOver, 1, -1)
		check(min32+9, 4, reach(9, 9), api.OK, 1, -1)
		check(max32, 1, reach(-9, -5), api.OK, 1, 1)
		check(max32, 0, reach(0, 0), api.OK)
		check(min32, 3, all, api.OK)
	}
}

// P32.1: what is told of a wrong node comes first, then an exchanged reach, then sums that do not fit.
func TestWrongNodes(t *testing.T) {
	over := dense([]int32{max32}, 1)
	right := []api.Node{
		over, {Kind: api.Conv, W: over.W, Bias: over.Bias, Q: one}, {Kind: api.Depth, W: over.W, Bias: over.Bias, Q: one},
		{Kind: api.MaxPool, K: 1, S: 1}, {Kind: api.AvgPool}, {Kind: api.Join, Q: one, R: one}, {Kind: api.Act, Q: one}, {Kind: api.Pad, P: 1}, {Kind: api.Flat},
	}
	for _, n := range right {
		if err := kinds.Check(n); err != api.OK {
			t.Fatalf("%+v is wrong: %d", n, err)
		}
		for _, r := range exchanged() {
			checkNode(t, n, r, all, reach(0, 0), api.ErrArg)
			checkNode(t, n, r, r, reach(0, 0), api.ErrArg)
			switch {
			case n.Kind == api.Join:
				checkNode(t, n, all, r, reach(0, 0), api.ErrArg)
			case kinds.Sums(n.Kind):
				checkNode(t, n, all, r, reach(0, 0), api.ErrOver)
			default:
				got, err := guard.Node(n, all, r)
				if want, _ := guard.Node(n, all, all); got != want || err != api.OK {
					t.Fatalf("Node(%+v) with no B = %+v, %d, want %+v", n, got, err, want)
				}
			}
		}
		for _, kind := range append([]int{0, 10, 257}, sample.Far()...) {
			w := n
			w.Kind = kind
			for _, r := range append(exchanged(), all) {
				checkNode(t, w, r, r, reach(0, 0), api.ErrKind)
			}
		}
		w := n
		w.R.Zero = 1
		for _, r := range append(exchanged(), all) {
			checkNode(t, w, r, r, reach(0, 0), api.ErrArg)
			if n.Q.Mult == 0 {
				continue
			}
			for _, q := range sample.WrongScales() {
				w := n
				w.Q, w.Lo, w.Hi = q, 9, -9
				checkNode(t, w, r, r, reach(0, 0), api.ErrQuant)
				if n.Kind == api.Join {
					w.Q, w.R = one, api.Quant{Mult: q.Mult, Shift: q.Shift}
					checkNode(t, w, r, r, reach(0, 0), api.ErrQuant)
				}
			}
			w := n
			w.Lo, w.Hi = 1, 0
			checkNode(t, w, r, r, reach(0, 0), api.ErrArg)
		}
	}
}

// ends is from the least to the greatest of what a function makes of all numbers of a reach.
func ends(r guard.Reach, of func(v int8) int8) guard.Reach {
	made := reach(127, -128)
	for v := int(r.Lo); v <= int(r.Hi); v++ {
		got := of(int8(v))
		made = reach(min(made.Lo, got), max(made.Hi, got))
	}
	return made
}

// P32.1, P32.4: each end is what some numbers make, and nothing goes beyond it: acts, joins, borders and single weights.
func TestReachesAreAttained(t *testing.T) {
	for _, q := range sample.Scales() {
		for _, limits := range reaches() {
			for _, z := range []int8{-128, -7, 0, 3, 127} {
				for _, a := range reaches() {
					n := api.Node{Kind: api.Act, Q: q, ZA: z, Lo: limits.Lo, Hi: limits.Hi}
					checkNode(t, n, a, reach(0, 0), ends(a, func(v int8) int8 { return act.One(v, n) }), api.OK)
					for _, weight := range []int8{-128, -3, 0, 1, 127} {
						n := dense([]int32{-50, 70}, weight, weight/2)
						n.Q, n.ZA, n.Lo, n.Hi = q, z, limits.Lo, limits.Hi
						first := ends(a, func(v int8) int8 { return held(n, 0, v) })
						second := ends(a, func(v int8) int8 { return held(n, 1, v) })
						checkNode(t, n, a, reach(0, 0), reach(min(first.Lo, second.Lo), max(first.Hi, second.Hi)), api.OK)
					}
					border := api.Node{Kind: api.Pad, P: 1, ZA: z}
					checkNode(t, border, a, reach(0, 0), reach(min(a.Lo, z), max(a.Hi, z)), api.OK)
				}
			}
		}
	}
}

// held is what becomes of a number by one row of a Dense of one weight a row.
func held(n api.Node, row int, v int8) int8 {
	sum := n.Bias[row] + int32(n.W[row])*(int32(v)-int32(n.ZA))
	return fix.Held(sum, n.Q, n.Lo, n.Hi)
}

// P32.1, P32.4: joins of all numbers of two reaches.
func TestJoinsAreAttained(t *testing.T) {
	narrow := []guard.Reach{reach(-128, -120), reach(-5, 5), reach(120, 127), reach(9, 9)}
	scales := sample.Scales()
	for i, q := range scales {
		for _, other := range []api.Quant{one, half, scales[(i+5)%len(scales)]} {
			for _, limits := range reaches() {
				n := api.Node{Kind: api.Join, Q: q, R: api.Quant{Mult: other.Mult, Shift: other.Shift}, ZA: 7, ZB: -100, Lo: limits.Lo, Hi: limits.Hi}
				for _, a := range narrow {
					for _, b := range narrow {
						want := reach(127, -128)
						for v := int(b.Lo); v <= int(b.Hi); v++ {
							made := ends(a, func(u int8) int8 { return join.One(u, int8(v), n) })
							want = reach(min(want.Lo, made.Lo), max(want.Hi, made.Hi))
						}
						checkNode(t, n, a, b, want, api.OK)
					}
				}
			}
		}
	}
}

// farthest is the least sum and the greatest one that some weights make of numbers of a reach, and of a bias.
func farthest(w []int8, bias int32, r guard.Reach, z int8) (least, greatest int) {
	least, greatest = int(bias), int(bias)
	for _, weight := range w {
		low, high := int(weight)*(int(r.Lo)-int(z)), int(weight)*(int(r.Hi)-int(z))
		least, greatest = least+min(low, high), greatest+max(low, high)
	}
	return least, greatest
}

func fits(sum int) bool { return sum >= min32 && sum <= max32 }

// P32.1, P32.3, P32.4: many weights, as sums of a node and of an exit, beside the limits of 32 bits.
func TestManyWeights(t *testing.T) {
	next := lot.From(29)
	told := map[api.Errno]int{}
	for range 2000 {
		lo, hi := next(-128, 127), next(-128, 127)
		r := reach(int8(min(lo, hi)), int8(max(lo, hi)))
		rows, each := next(1, 4), next(0, 40)
		var n api.Node
		for range rows * each {
			n.W = append(n.W, int8(next(-128, 127)))
		}
		for range rows {
			n.Bias = append(n.Bias, int32([]int{next(-99, 99), max32 - next(0, 300000), min32 + next(0, 300000)}[next(0, 2)]))
		}
		n.Kind, n.ZA, n.Q, n.Lo, n.Hi = api.Dense, int8(next(-128, 127)), api.Quant{Mult: int32(next(1, 99)), Shift: next(0, 30)}, -128, 127
		least, greatest := math.MaxInt, math.MinInt
		wantHead := api.OK
		for o, bias := range n.Bias {
			w := n.W[o*each : (o+1)*each]
			low, high := farthest(w, bias, r, n.ZA)
			least, greatest = min(least, low), max(greatest, high)
			if low, high = farthest(w, bias, r, 0); !fits(low) || !fits(high) {
				wantHead = api.ErrOver
			}
		}
		if fits(least) && fits(greatest) {
			checkNode(t, n, r, reach(0, 0), reach(fix.Held(int32(least), n.Q, -128, 127), fix.Held(int32(greatest), n.Q, -128, 127)), api.OK)
		} else {
			checkNode(t, n, r, reach(0, 0), reach(0, 0), api.ErrOver)
			told[api.ErrOver]++
		}
		checkHead(t, api.Head{W: n.W, Bias: n.Bias, Need: -1}, r, wantHead)
		checkHead(t, api.Head{W: n.W, Bias: n.Bias}, reach(r.Hi, r.Lo), wantHead)
		told[wantHead]++
	}
	if told[api.OK] < 100 || told[api.ErrOver] < 100 {
		t.Errorf("only %v was told", told)
	}
}

// P32.2: a block of which all reaches are written out.
func TestFlowByHand(t *testing.T) {
	l := []api.Node{
		{Kind: api.Act, A: 0, Q: one, Hi: 90},
		{Kind: api.Join, A: 0, B: 1, Q: half, R: one, Lo: -128, Hi: 100},
		{Kind: api.Pad, A: 1, P: 1, ZA: -4},
		{Kind: api.MaxPool, A: 3, K: 2, S: 2},
		{Kind: api.Conv, A: 1, K: 2, S: 2, P: 1, Out: 1, ZA: 5, W: []int8{1, 0, 0, -1}, Bias: []int32{10}, Q: one, Lo: -100, Hi: 99},
		{Kind: api.AvgPool, A: 2, K: 2, S: 1},
		{Kind: api.Flat, A: 3},
		{Kind: api.Dense, A: 7, Out: 2, ZA: 1, W: []int8{1, 0, 0, -1}, Bias: []int32{1, 0}, Q: half, Lo: -128, Hi: 127},
	}
	// Of the Conv -5 to 85, or nothing, by 1 and by -1; of the Dense -5 to 89 by 1, or by -1.
	want := []guard.Reach{
		reach(-10, 100), reach(0, 90), reach(-5+0+3, 100), reach(-4, 90), reach(-4, 90), reach(-80, 99), reach(-2, 100), reach(-4, 90),
		reach(-45+3, 45+3),
	}
	for i := range l {
		checkFlow(t, l[:i+1], reach(-10, 100), want[:i+2], i+1, api.OK)
	}
	checkFlow(t, []api.Node{{Kind: api.Act, Q: one, Hi: 127}}, reach(-128, 50), []guard.Reach{reach(-128, 50), reach(0, 50)}, 1, api.OK)
	// A Join of a value with itself, and of values in the other order.
	sum := api.Node{Kind: api.Join, A: 1, B: 1, Q: half, R: one, Lo: -128, Hi: 127}
	turned := sum
	turned.B = 0
	checkFlow(t, []api.Node{l[0], sum}, reach(-10, 20), []guard.Reach{reach(-10, 20), reach(0, 20), reach(3, 33)}, 2, api.OK)
	checkFlow(t, []api.Node{l[0], turned}, reach(-10, 20), []guard.Reach{reach(-10, 20), reach(0, 20), reach(-7, 33)}, 2, api.OK)
	// The shapes of values are not looked at.
	checkFlow(t, []api.Node{{Kind: api.MaxPool, K: -5, S: 99}, {Kind: api.Dense, Out: 77, Q: one}}, all, []guard.Reach{all, all, reach(0, 0)}, 2, api.OK)
}

// P32.2: what is wrong with a block itself.
func TestFlowOfNoBlock(t *testing.T) {
	for _, n := range []api.Node{{Kind: api.Flat}, {Kind: -1, A: -1}} {
		for _, in := range append(exchanged(), reaches()...) {
			for _, many := range []int{9, 10, 300} {
				checkFlow(t, slices.Repeat([]api.Node{n}, many), in, nil, -1, api.ErrFull)
			}
			checkFlow(t, nil, in, nil, -1, api.ErrEmpty)
			checkFlow(t, []api.Node{}, in, nil, -1, api.ErrEmpty)
		}
		for _, in := range exchanged() {
			for many := 1; many <= api.MaxNodes; many++ {
				checkFlow(t, slices.Repeat([]api.Node{n}, many), in, nil, -1, api.ErrArg)
			}
		}
	}
	for many := 1; many <= api.MaxNodes; many++ {
		for _, in := range reaches() {
			checkFlow(t, slices.Repeat([]api.Node{{Kind: api.Flat}}, many), in, slices.Repeat([]guard.Reach{in}, many+1), many, api.OK)
		}
	}
}

// P32.2: a value that is not there comes before all else that is wrong with its node.
func TestFlowOfWrongValues(t *testing.T) {
	flat := api.Node{Kind: api.Flat}
	joined := api.Node{Kind: api.Join, Q: one, R: one}
	over := dense([]int32{max32}, 1)
	check := func(n api.Node, a, b int, want api.Errno) {
		t.Helper()
		n.A, n.B = a, b
		checkFlow(t, []api.Node{flat, n, {Kind: -1, A: -1}}, all, nil, 1, want)
	}
	for _, far := range append([]int{2, 3}, sample.Far()...) {
		for _, n := range []api.Node{flat, joined, over, {Kind: 10}, {Kind: 0}, {Kind: api.Flat, P: 1}, {Kind: api.Act}, {Kind: api.Act, Q: one, Lo: 1}} {
			check(n, far, 0, api.ErrValue)
			check(n, far, far, api.ErrValue)
		}
		for _, n := range []api.Node{joined, {Kind: api.Join}, {Kind: api.Join, K: 1, Q: one, R: one, Lo: 1}} {
			check(n, 0, far, api.ErrValue)
			check(n, 1, far, api.ErrValue)
		}
		// What is not a Join has no B: that it is there is wrong, not what it is.
		check(flat, 1, far, api.ErrArg)
		check(over, 0, far, api.ErrArg)
		check(api.Node{Kind: 10}, 0, far, api.ErrKind)
		check(api.Node{Kind: -1, Lo: 1}, 1, far, api.ErrKind)
	}
	check(joined, 0, 2, api.ErrValue)
	check(flat, 1, 1, api.ErrArg)
	check(over, 1, 0, api.ErrOver)
	check(over, 0, 0, api.ErrOver)
	check(api.Node{Kind: api.Act}, 1, 0, api.ErrQuant)
	checkFlow(t, []api.Node{{Kind: api.Flat, A: 1}}, all, nil, 0, api.ErrValue)
	checkFlow(t, []api.Node{{Kind: api.Join, B: 1}}, all, nil, 0, api.ErrValue)
	checkFlow(t, []api.Node{over}, reach(-128, 0), []guard.Reach{reach(-128, 0), reach(127, 127)}, 1, api.OK)
	checkFlow(t, []api.Node{over}, reach(-128, 1), nil, 0, api.ErrOver)
	// The reach of the value that a node takes counts, not that of the one before it.
	small := api.Node{Kind: api.Act, Q: one, Lo: -9}
	checkFlow(t, []api.Node{small, over}, all, nil, 1, api.ErrOver)
	over.A = 1
	checkFlow(t, []api.Node{small, over}, all, []guard.Reach{all, reach(-9, 0), reach(127, 127)}, 2, api.OK)
}

// flow is the reaches of all values by the words of the chapter, one by one.
func flow(l []api.Node, in guard.Reach) ([]guard.Reach, int, api.Errno) {
	values := []guard.Reach{in}
	for i, n := range l {
		var b guard.Reach
		if n.A < 0 || n.A > i {
			return nil, i, api.ErrValue
		}
		if n.Kind == api.Join {
			if n.B < 0 || n.B > i {
				return nil, i, api.ErrValue
			}
			b = values[n.B]
		}
		r, err := guard.Node(n, values[n.A], b)
		if err != api.OK {
			return nil, i, err
		}
		values = append(values, r)
	}
	return values, len(l), api.OK
}

// P32.2: blocks of which some nodes are wrong.
func TestFlowOfWrongNodes(t *testing.T) {
	told := map[api.Errno]int{}
	lot.WrongNodes(func(l []api.Node, x api.Tensor, at int, err api.Errno) {
		for _, in := range []guard.Reach{all, reach(-10, 10)} {
			want, at, err := flow(l, in)
			checkFlow(t, l, in, want, at, err)
			told[err]++
		}
	})
	for _, err := range []api.Errno{api.OK, api.ErrKind, api.ErrArg, api.ErrQuant, api.ErrValue} {
		if told[err] == 0 {
			t.Errorf("only %v was told", told)
		}
	}
}

// inputs is tensors of numbers of a reach: its ends alone, in turn, and many between them.
func inputs(next lot.Draw, s api.Shape, r guard.Reach) []api.Tensor {
	var l []api.Tensor
	for _, of := range []func(i int) int8{
		func(i int) int8 { return r.Lo },
		func(i int) int8 { return r.Hi },
		func(i int) int8 { return []int8{r.Lo, r.Hi}[i%2] },
		func(i int) int8 { return []int8{r.Lo, r.Hi}[next(0, 1)] },
		func(i int) int8 { return int8(next(int(r.Lo), int(r.Hi))) },
	} {
		x := api.Tensor{Shape: s}
		for i := range s.H * s.W * s.C {
			x.Data = append(x.Data, of(i))
		}
		l = append(l, x)
	}
	return l
}

// P32.2, P32.4: each value of a block lies within its reach, whatever the numbers are that come in.
func TestValuesAreWithin(t *testing.T) {
	next := lot.From(31)
	ran := map[int]int{}
	lot.Blocks(func(l []api.Node, shapes []api.Shape, right api.Tensor) {
		for _, in := range []guard.Reach{all, reach(-10, 10), reach(90, 100), reach(-7, -7)} {
			want, at, err := flow(l, in)
			checkFlow(t, l, in, want, at, err)
			if at != len(l) || err != api.OK {
				t.Fatalf("Flow(%+v) = %d, %d", l, at, err)
			}
			for _, x := range inputs(next, right.Shape, in) {
				values, _, _ := graph.Values(l, x)
				for i, v := range values {
					if slices.Min(v.Data) < want[i].Lo || slices.Max(v.Data) > want[i].Hi {
						t.Fatalf("value %d of %+v is %d, which is not within %+v", i, l, v.Data, want[i])
					}
				}
			}
		}
		for _, n := range l {
			ran[n.Kind]++
		}
	})
	if len(ran) != 9 {
		t.Errorf("only kinds %v were executed", ran)
	}
}

// exact is the sums of a node at each place, as integers that do not wrap, and whether all of them fit 32 bits.
func exact(n api.Node, x api.Tensor, s api.Shape) ([]int32, bool) {
	var sums []int32
	held := true
	for i := range s.H * s.W * s.C {
		place, _ := shape.Place(s, i)
		sum := int(n.Bias[place[2]])
		for j, weight := range row(n, place[2]) {
			if v, inside := number(n, x, place, j); inside {
				sum += int(weight) * (int(v) - int(n.ZA))
			}
		}
		sums, held = append(sums, int32(sum)), held && fits(sum)
	}
	return sums, held
}

// row is the weights of a channel that goes out.
func row(n api.Node, c int) []int8 {
	each := len(n.W) / len(n.Bias)
	return n.W[c*each : (c+1)*each]
}

// number is what a weight of a channel that goes out is multiplied with.
func number(n api.Node, x api.Tensor, place [3]int, j int) (int8, bool) {
	c, cell := place[2], j
	switch n.Kind {
	case api.Dense:
		return x.Data[j], true
	case api.Conv:
		c, cell = j%x.Shape.C, j/x.Shape.C
	}
	at, inside := shape.Index(x.Shape, place[0]*n.S-n.P+cell/n.K, place[1]*n.S-n.P+cell%n.K, c)
	if !inside {
		return 0, false
	}
	return x.Data[at], true
}

// P32.4: where a reach is told, no sum exceeds 32 bits; all kinds of sums, with biases beside the limits.
func TestSumsFit(t *testing.T) {
	next := lot.From(37)
	told := map[[2]int]int{}
	for range 3000 {
		s := api.Shape{H: next(1, 4), W: next(1, 4), C: next(1, 3)}
		n, made := next.Fitting([]api.Shape{s})
		if !kinds.Sums(n.Kind) {
			continue
		}
		for o := range n.Bias {
			n.Bias[o] = []int32{max32 - int32(next(0, 20000)), min32 + int32(next(0, 20000))}[next(0, 1)]
		}
		in := []guard.Reach{all, reach(-10, 10), reach(-128, -60), reach(60, 127)}[next(0, 3)]
		_, err := guard.Node(n, in, reach(0, 0))
		told[[2]int{n.Kind, int(err)}]++
		for _, x := range inputs(next, s, in) {
			want, held := exact(n, x, made)
			sums, sumErr := run.Sum(n, x)
			if sumErr != api.OK || !slices.Equal(sums.Data, want) {
				t.Fatalf("the test's own sums of %+v are %d, those of run %d", n, want, sums.Data)
			}
			if !held && err != api.ErrOver {
				t.Fatalf("Node(%+v, %+v) = %d, but sums of %d do not fit", n, in, err, x.Data)
			}
		}
	}
	for _, kind := range []int{api.Conv, api.Depth, api.Dense} {
		if told[[2]int{kind, int(api.OK)}] == 0 || told[[2]int{kind, int(api.ErrOver)}] == 0 {
			t.Errorf("only %v was told", told)
		}
	}
}

// P32.3: exits written out.
func TestHeadByHand(t *testing.T) {
	for _, in := range append(exchanged(), reaches()...) {
		checkHead(t, api.Head{}, in, api.ErrWeights)
		checkHead(t, api.Head{W: []int8{1, 2}, Bias: []int32{}}, in, api.ErrWeights)
		checkHead(t, api.Head{W: []int8{1, 2, 3}, Bias: []int32{max32, max32}}, in, api.ErrWeights)
		checkHead(t, api.Head{W: []int8{1, 2, 3}, Bias: make([]int32, 4)}, in, api.ErrWeights)
		checkHead(t, api.Head{W: []int8{1, 2, 3}, Bias: make([]int32, 6)}, in, api.ErrWeights)
		checkHead(t, api.Head{W: []int8{1, 2, 3, 4}, Bias: make([]int32, 2), Need: min32}, in, api.OK)
		checkHead(t, api.Head{W: []int8{1, 2, 3, 4}, Bias: make([]int32, 4), Need: max32}, in, api.OK)
		checkHead(t, api.Head{W: []int8{1, 2, 3, 4}, Bias: make([]int32, 1)}, in, api.OK)
		checkHead(t, api.Head{Bias: []int32{max32, min32, 0}}, in, api.OK)
		checkHead(t, api.Head{W: []int8{0, 0}, Bias: []int32{max32, min32}}, in, api.OK)
	}
	check := func(bias int32, in guard.Reach, want api.Errno, w ...int8) {
		t.Helper()
		zero := make([]int8, len(w))
		checkHead(t, api.Head{W: w, Bias: []int32{bias}}, in, want)
		checkHead(t, api.Head{W: slices.Concat(w, zero), Bias: []int32{bias, max32}}, in, want)
		checkHead(t, api.Head{W: slices.Concat(zero, zero, w), Bias: []int32{0, min32, bias}}, in, want)
	}
	check(max32-1, reach(0, 1), api.OK, 1)
	check(max32, reach(0, 1), api.ErrOver, 1)
	check(max32, reach(1, 0), api.ErrOver, 1)
	check(max32, reach(-1, 0), api.OK, 1)
	check(max32, reach(0, -1), api.OK, 1)
	check(min32+1, reach(0, 1), api.OK, -1)
	check(min32, reach(0, 1), api.ErrOver, -1)
	check(max32, reach(7, 7), api.OK, 1, -1)
	check(max32-256*128, all, api.OK, -128, -128)
	check(max32-256*128+1, all, api.ErrOver, -128, -128)
	check(min32+256*127, all, api.OK, 127, 127)
	check(min32+256*127-1, all, api.ErrOver, 127, 127)
	checkHead(t, api.Head{W: []int8{1, 1}, Bias: []int32{0, max32}}, reach(0, 1), api.ErrOver)
}

// Rule 2: what is passed stays as it is, up to its capacity, and shares nothing with what is told.
func TestNothingIsShared(t *testing.T) {
	lot.Blocks(func(l []api.Node, shapes []api.Shape, x api.Tensor) {
		w := lot.Wide(l)
		want, _, _ := guard.Flow(l, all)
		first, _, _ := guard.Flow(w, all)
		second, _, _ := guard.Flow(w, all)
		for _, n := range w {
			guard.Node(n, all, all)
			guard.Head(api.Head{W: n.W, Bias: n.Bias}, all)
		}
		clear(first[:cap(first)])
		if !lot.Kept(w, l) {
			t.Fatalf("%+v changed", l)
		}
		lot.Forget(w)
		if !slices.Equal(second, want) {
			t.Fatalf("the reaches of %+v changed with others or with what was passed", l)
		}
	})
}

// P1, rule 6: nodes whose fields are all far away.
func TestFarNodes(t *testing.T) {
	for _, far := range sample.Far() {
		for kind := -1; kind <= 10; kind++ {
			for _, a := range []int{0, 1, far} {
				n := api.Node{Kind: kind, A: a, B: far, K: far, S: far, P: far, Out: far, W: sample.Numbers(6), Bias: []int32{1, max32}, Q: api.Quant{Mult: 1, Shift: far}, R: one}
				for _, n := range []api.Node{n, kinds.Plain(n)} {
					l := []api.Node{{Kind: api.Flat}, n}
					want, at, err := flow(l, all)
					checkFlow(t, l, all, want, at, err)
				}
			}
		}
	}
}
