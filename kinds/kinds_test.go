package kinds_test

import (
	"math"
	"reflect"
	"slices"
	"testing"

	"stepwell/api"
	"stepwell/conv"
	"stepwell/dense"
	"stepwell/depth"
	"stepwell/kinds"
	"stepwell/sample"
	"stepwell/shape"
)

const (
	min64 = math.MinInt64
	max64 = math.MaxInt64
)

var (
	allKinds = []int{api.Conv, api.Depth, api.Dense, api.MaxPool, api.AvgPool, api.Join, api.Act, api.Pad, api.Flat}
	summing  = []int{api.Conv, api.Depth, api.Dense}
	windows  = []int{api.Conv, api.Depth, api.MaxPool, api.AvgPool}
	scaled   = []int{api.Conv, api.Depth, api.Dense, api.Join, api.Act}
)

// wrongKinds is numbers that no kind has.
func wrongKinds() []int {
	l := []int{0, 10, 11, 256, 257, 265}
	for _, far := range sample.Far() {
		l = append(l, far)
		if far < 0 {
			l = append(l, far+10)
		}
	}
	return slices.DeleteFunc(l, func(kind int) bool { return slices.Contains(allKinds, kind) })
}

// field is one of a node's, with values that are not zero, and the kinds that have it.
type field struct {
	name string
	of   []int
	sets []func(n *api.Node)
}

func numbered(name string, of []int, at func(n *api.Node) *int) field {
	f := field{name: name, of: of}
	for _, v := range append([]int{1, 3}, sample.Far()...) {
		f.sets = append(f.sets, func(n *api.Node) { *at(n) = v })
	}
	return f
}

func small(name string, of []int, at func(n *api.Node) *int8) field {
	f := field{name: name, of: of}
	for _, v := range []int8{-128, -1, 1, 127} {
		f.sets = append(f.sets, func(n *api.Node) { *at(n) = v })
	}
	return f
}

func scale(name string, mult, zero []int, at func(n *api.Node) *api.Quant) []field {
	f := field{name: name + ".Mult", of: mult}
	for _, v := range []int32{1, -1, math.MinInt32, math.MaxInt32} {
		f.sets = append(f.sets, func(n *api.Node) { at(n).Mult = v })
	}
	return []field{
		f,
		numbered(name+".Shift", mult, func(n *api.Node) *int { return &at(n).Shift }),
		small(name+".Zero", zero, func(n *api.Node) *int8 { return &at(n).Zero }),
	}
}

// fields is all fields that not every kind has.
func fields() []field {
	bordered := append(slices.Clone(windows), api.Pad)
	l := []field{
		numbered("B", []int{api.Join}, func(n *api.Node) *int { return &n.B }),
		numbered("K", windows, func(n *api.Node) *int { return &n.K }),
		numbered("S", windows, func(n *api.Node) *int { return &n.S }),
		numbered("P", bordered, func(n *api.Node) *int { return &n.P }),
		numbered("Out", []int{api.Conv, api.Dense}, func(n *api.Node) *int { return &n.Out }),
		small("ZA", append(slices.Clone(scaled), api.Pad), func(n *api.Node) *int8 { return &n.ZA }),
		small("ZB", []int{api.Join}, func(n *api.Node) *int8 { return &n.ZB }),
		small("Lo", scaled, func(n *api.Node) *int8 { return &n.Lo }),
		small("Hi", scaled, func(n *api.Node) *int8 { return &n.Hi }),
		{"W", summing, []func(n *api.Node){func(n *api.Node) { n.W = []int8{0} }, func(n *api.Node) { n.W = sample.Numbers(9) }}},
		{"Bias", summing, []func(n *api.Node){func(n *api.Node) { n.Bias = []int32{0} }, func(n *api.Node) { n.Bias = []int32{1, math.MinInt32} }}},
	}
	l = append(l, scale("Q", scaled, scaled, func(n *api.Node) *api.Quant { return &n.Q })...)
	return append(l, scale("R", []int{api.Join}, nil, func(n *api.Node) *api.Quant { return &n.R })...)
}

// full is a node that has all fields, with nothing wrong but that.
func full(kind int) api.Node {
	return api.Node{
		Kind: kind, A: 1, B: 2, K: 3, S: 4, P: 5, Out: 6, ZA: 7, ZB: 8, W: []int8{9, -9}, Bias: []int32{10, -10},
		Q: api.Quant{Mult: 11, Shift: 12, Zero: 13}, R: api.Quant{Mult: 14, Shift: 15, Zero: 16}, Lo: 17, Hi: 18,
	}
}

// plain is what full becomes, written out.
func plain(kind int) api.Node {
	q := api.Quant{Mult: 11, Shift: 12, Zero: 13}
	switch kind {
	case api.Conv:
		return api.Node{Kind: 1, A: 1, K: 3, S: 4, P: 5, Out: 6, ZA: 7, W: []int8{9, -9}, Bias: []int32{10, -10}, Q: q, Lo: 17, Hi: 18}
	case api.Depth:
		return api.Node{Kind: 2, A: 1, K: 3, S: 4, P: 5, ZA: 7, W: []int8{9, -9}, Bias: []int32{10, -10}, Q: q, Lo: 17, Hi: 18}
	case api.Dense:
		return api.Node{Kind: 3, A: 1, Out: 6, ZA: 7, W: []int8{9, -9}, Bias: []int32{10, -10}, Q: q, Lo: 17, Hi: 18}
	case api.MaxPool, api.AvgPool:
		return api.Node{Kind: kind, A: 1, K: 3, S: 4, P: 5}
	case api.Join:
		return api.Node{Kind: 6, A: 1, B: 2, ZA: 7, ZB: 8, Q: q, R: api.Quant{Mult: 14, Shift: 15}, Lo: 17, Hi: 18}
	case api.Act:
		return api.Node{Kind: 7, A: 1, ZA: 7, Q: q, Lo: 17, Hi: 18}
	case api.Pad:
		return api.Node{Kind: 8, A: 1, P: 5, ZA: 7}
	}
	return api.Node{Kind: 9, A: 1}
}

// checkNode holds a node against another one; an empty list may be nil or not.
func checkNode(t *testing.T, call string, got, want api.Node) {
	t.Helper()
	if !slices.Equal(got.W, want.W) || !slices.Equal(got.Bias, want.Bias) {
		t.Fatalf("%s has the lists %d, %d, want %d, %d", call, got.W, got.Bias, want.W, want.Bias)
	}
	got.W, got.Bias, want.W, want.Bias = nil, nil, nil, nil
	if !reflect.DeepEqual(got, want) {
		t.Fatalf("%s = %+v, want %+v", call, got, want)
	}
}

func checkError(t *testing.T, n api.Node, want api.Errno) {
	t.Helper()
	if got := kinds.Check(n); got != want {
		t.Fatalf("Check(%+v) = %d, want %d", n, got, want)
	}
}

// P25.1
func TestNameAndSums(t *testing.T) {
	want := []string{"conv", "depth", "dense", "maxpool", "avgpool", "join", "act", "pad", "flat"}
	for i, name := range want {
		kind := i + 1
		if got := kinds.Name(kind); got != name {
			t.Errorf("Name(%d) = %q, want %q", kind, got, name)
		}
		if got := kinds.Sums(kind); got != (kind <= 3) {
			t.Errorf("Sums(%d) = %t", kind, got)
		}
	}
	for _, kind := range wrongKinds() {
		if kinds.Name(kind) != "" || kinds.Sums(kind) {
			t.Errorf("Name(%d) = %q, Sums(%d) = %t", kind, kinds.Name(kind), kind, kinds.Sums(kind))
		}
	}
}

// P25.1: nodes written out.
func TestPlainByHand(t *testing.T) {
	for _, kind := range allKinds {
		checkNode(t, "Plain", kinds.Plain(full(kind)), plain(kind))
		checkNode(t, "Plain of nothing else", kinds.Plain(api.Node{Kind: kind}), api.Node{Kind: kind})
	}
	for _, kind := range wrongKinds() {
		checkNode(t, "Plain of no kind", kinds.Plain(full(kind)), api.Node{})
	}
}

// P25.1: each field by itself stays as it is, or goes; what it contains does not matter.
func TestPlainFields(t *testing.T) {
	for _, kind := range allKinds {
		for _, f := range fields() {
			for _, set := range f.sets {
				n, want := full(kind), plain(kind)
				set(&n)
				if slices.Contains(f.of, kind) {
					set(&want)
				}
				checkNode(t, "Plain with another "+f.name, kinds.Plain(n), want)
			}
		}
		for _, a := range sample.Far() {
			n, want := full(kind), plain(kind)
			n.A, want.A = a, a
			checkNode(t, "Plain with another A", kinds.Plain(n), want)
		}
	}
}

// P25.1 and rule 2: the lists are copies, and what lies behind their ends stays as it is.
func TestPlainCopies(t *testing.T) {
	for _, kind := range allKinds {
		n := full(kind)
		n.W, n.Bias = sample.Wide(n.W), append(slices.Clone(n.Bias), 77)[:2]
		first, second := kinds.Plain(n), kinds.Plain(n)
		kinds.Check(n)
		clear(first.W[:cap(first.W)])
		clear(first.Bias[:cap(first.Bias)])
		if !slices.Equal(n.W[:5], []int8{9, -9, 101, 102, 103}) || !slices.Equal(n.Bias[:3], []int32{10, -10, 77}) {
			t.Errorf("kind %d: what was passed became %d, %d", kind, n.W[:5], n.Bias[:3])
		}
		clear(n.W)
		clear(n.Bias)
		checkNode(t, "Plain behind a change of the list that was passed", second, plain(kind))
	}
}

// P25.2: nothing is wrong, whatever stands in the fields that are not asked.
func TestCheckOfRightNodes(t *testing.T) {
	for _, kind := range allKinds {
		checkError(t, plain(kind), api.OK)
		for _, f := range fields() {
			switch f.name {
			case "B", "K", "S", "P", "Out", "ZA", "ZB", "W", "Bias", "Q.Zero":
			default:
				continue
			}
			for _, set := range f.sets {
				n := plain(kind)
				if slices.Contains(f.of, kind) {
					set(&n)
				}
				checkError(t, n, api.OK)
			}
		}
		for _, far := range sample.Far() {
			n := plain(kind)
			n.A = far
			checkError(t, n, api.OK)
		}
		n := plain(kind)
		n.W, n.Bias = []int8{}, []int32{}
		checkError(t, n, api.OK)
		n.W, n.Bias = sample.Numbers(9)[:0], []int32{1, 2}[:0]
		checkError(t, n, api.OK)
	}
}

// P25.2: there is no such kind, which comes before all else.
func TestCheckOfWrongKinds(t *testing.T) {
	for _, kind := range wrongKinds() {
		checkError(t, api.Node{Kind: kind}, api.ErrKind)
		n := full(kind)
		checkError(t, n, api.ErrKind)
		n.Q, n.R, n.Lo, n.Hi = api.Quant{}, api.Quant{}, 5, -5
		checkError(t, n, api.ErrKind)
	}
}

// P25.2: a field that the kind does not have, before what is wrong with its scales.
func TestCheckOfOtherFields(t *testing.T) {
	for _, kind := range allKinds {
		for _, f := range fields() {
			if slices.Contains(f.of, kind) {
				continue
			}
			for _, set := range f.sets {
				n := plain(kind)
				set(&n)
				checkError(t, n, api.ErrArg)
				if slices.Contains(scaled, kind) {
					n.Q = api.Quant{}
					checkError(t, n, api.ErrArg)
				}
				if kind == api.Join {
					n.R.Mult, n.R.Shift = -1, -1
					checkError(t, n, api.ErrArg)
				}
			}
		}
	}
	// The one field of R that no kind has.
	n := plain(api.Join)
	n.R.Zero = 1
	checkError(t, n, api.ErrArg)
}

// P25.2: wrong scales, before limits that are exchanged.
func TestCheckOfScales(t *testing.T) {
	for _, kind := range scaled {
		check := func(n api.Node, want api.Errno) {
			t.Helper()
			checkError(t, n, want)
			if want == api.OK {
				want = api.ErrArg
			}
			n.Lo, n.Hi = 18, 17
			checkError(t, n, want)
		}
		for _, q := range sample.Scales() {
			n := plain(kind)
			n.Q = q
			check(n, api.OK)
		}
		for _, q := range sample.WrongScales() {
			n := plain(kind)
			n.Q = q
			check(n, api.ErrQuant)
		}
	}
	for _, r := range sample.Scales() {
		n := plain(api.Join)
		n.R = api.Quant{Mult: r.Mult, Shift: r.Shift}
		checkError(t, n, api.OK)
	}
	for _, r := range sample.WrongScales() {
		n := plain(api.Join)
		n.R = api.Quant{Mult: r.Mult, Shift: r.Shift}
		checkError(t, n, api.ErrQuant)
		n.Q, n.Lo, n.Hi = n.R, 1, 0
		checkError(t, n, api.ErrQuant)
	}
}

// P25.2: limits.
func TestCheckOfLimits(t *testing.T) {
	for _, kind := range allKinds {
		for _, reach := range append(sample.Reaches(), [2]int8{0, 0}, [2]int8{1, 0}, [2]int8{0, -1}, [2]int8{-128, -127}, [2]int8{-127, -128}) {
			n := plain(kind)
			n.Lo, n.Hi = reach[0], reach[1]
			want := api.OK
			switch {
			case !slices.Contains(scaled, kind) && reach != [2]int8{}:
				want = api.ErrArg
			case reach[0] > reach[1]:
				want = api.ErrArg
			}
			checkError(t, n, want)
		}
	}
}

func checkShape(t *testing.T, n api.Node, a, b, want api.Shape, wantErr api.Errno) {
	t.Helper()
	if got, err := kinds.Shape(n, a, b); got != want || err != wantErr {
		t.Fatalf("Shape of kind %d, K %d, S %d, P %d, Out %d, %d weights and %d biases, %+v and %+v = %+v, %d, want %+v, %d", n.Kind, n.K, n.S, n.P, n.Out, len(n.W), len(n.Bias), a, b, got, err, want, wantErr)
	}
}

// shapes is valid shapes and others.
func shapes() []api.Shape {
	return append(sample.Shapes(), sample.WrongShapes()...)
}

// P25.3: shapes written out.
func TestShapeByHand(t *testing.T) {
	s := api.Shape{H: 2, W: 3, C: 4}
	weighed := func(kind, weights, biases int) api.Node {
		return api.Node{Kind: kind, K: 2, S: 1, P: 1, Out: 5, W: make([]int8, weights), Bias: make([]int32, biases)}
	}
	for _, c := range []struct {
		n       api.Node
		a, b    api.Shape
		want    api.Shape
		wantErr api.Errno
	}{
		{weighed(api.Conv, 80, 5), s, s, api.Shape{H: 3, W: 4, C: 5}, api.OK},
		{weighed(api.Conv, 16, 4), s, s, api.Shape{}, api.ErrWeights},
		{weighed(api.Depth, 16, 4), s, s, api.Shape{H: 3, W: 4, C: 4}, api.OK},
		{weighed(api.Depth, 80, 5), s, s, api.Shape{}, api.ErrWeights},
		{weighed(api.Dense, 120, 5), s, s, api.Shape{H: 1, W: 1, C: 5}, api.OK},
		{weighed(api.Dense, 80, 5), s, s, api.Shape{}, api.ErrWeights},
		{weighed(api.MaxPool, 0, 0), s, s, api.Shape{H: 3, W: 4, C: 4}, api.OK},
		{weighed(api.AvgPool, 0, 0), s, s, api.Shape{H: 3, W: 4, C: 4}, api.OK},
		{api.Node{Kind: api.AvgPool, K: 2, S: 2}, s, s, api.Shape{H: 1, W: 1, C: 4}, api.OK},
		{api.Node{Kind: api.MaxPool, K: 3, S: 2}, s, s, api.Shape{}, api.ErrShape},
		{api.Node{Kind: api.MaxPool, K: 3}, s, s, api.Shape{}, api.ErrArg},
		{api.Node{Kind: api.Join}, s, s, s, api.OK},
		{api.Node{Kind: api.Join}, s, api.Shape{H: 2, W: 3, C: 3}, api.Shape{}, api.ErrShape},
		{api.Node{Kind: api.Join}, s, api.Shape{}, api.Shape{}, api.ErrShape},
		{api.Node{Kind: api.Join}, api.Shape{}, api.Shape{}, api.Shape{}, api.ErrShape},
		{api.Node{Kind: api.Act}, s, api.Shape{}, s, api.OK},
		{api.Node{Kind: api.Pad}, s, api.Shape{}, s, api.OK},
		{api.Node{Kind: api.Pad, P: 4}, s, api.Shape{}, api.Shape{H: 10, W: 11, C: 4}, api.OK},
		{api.Node{Kind: api.Pad, P: 4}, api.Shape{H: 9, W: 1, C: 1}, s, api.Shape{}, api.ErrShape},
		{api.Node{Kind: api.Pad, P: 4}, api.Shape{H: 8, W: 8, C: 4}, s, api.Shape{H: 16, W: 16, C: 4}, api.OK},
		{api.Node{Kind: api.Pad, P: 4}, api.Shape{H: 8, W: 8, C: 5}, s, api.Shape{}, api.ErrShape},
		{api.Node{Kind: api.Pad, P: 5}, s, s, api.Shape{}, api.ErrArg},
		{api.Node{Kind: api.Pad, P: -1}, s, s, api.Shape{}, api.ErrArg},
		{api.Node{Kind: api.Flat}, s, api.Shape{}, api.Shape{H: 1, W: 1, C: 24}, api.OK},
	} {
		checkShape(t, c.n, c.a, c.b, c.want, c.wantErr)
	}
}

// P25.3: there is no such kind, which comes before a wrong shape.
func TestShapeOfWrongKinds(t *testing.T) {
	for _, kind := range wrongKinds() {
		for _, s := range shapes() {
			checkShape(t, api.Node{Kind: kind, K: 1, S: 1}, s, s, api.Shape{}, api.ErrKind)
		}
	}
}

// P25.3: what conv, depth, dense and shape tell, for all windows and for wrong ones, whatever b is.
func TestShapeOfWindows(t *testing.T) {
	told := map[api.Errno]int{}
	compare := func(n api.Node, a api.Shape) {
		t.Helper()
		for _, b := range []api.Shape{a, {}, {H: 1, W: 1, C: 1}} {
			for _, c := range []struct {
				kind int
				of   func() (api.Shape, api.Errno)
			}{
				{api.Conv, func() (api.Shape, api.Errno) { return conv.Shape(a, n) }},
				{api.Depth, func() (api.Shape, api.Errno) { return depth.Shape(a, n) }},
				{api.Dense, func() (api.Shape, api.Errno) { return dense.Shape(a, n) }},
				{api.MaxPool, func() (api.Shape, api.Errno) { return shape.Slide(a, n.K, n.S, n.P, a.C) }},
				{api.AvgPool, func() (api.Shape, api.Errno) { return shape.Slide(a, n.K, n.S, n.P, a.C) }},
			} {
				n.Kind = c.kind
				want, wantErr := c.of()
				checkShape(t, n, a, b, want, wantErr)
				told[wantErr]++
			}
		}
	}
	for _, s := range shapes() {
		sample.Windows(func(k, stride, p int) {
			n := api.Node{K: k, S: stride, P: p, Out: 2}
			compare(n, s)
			if !shape.Right(s) {
				return
			}
			for _, size := range []int{2 * k * k * s.C, k * k * s.C, 2 * shape.Elems(s)} {
				n.W = make([]int8, size)
				n.Bias = make([]int32, 2)
				compare(n, s)
				n.Bias = make([]int32, s.C)
				compare(n, s)
			}
		})
		sample.WrongWindows(func(n api.Node) { compare(n, s) })
	}
	for _, err := range []api.Errno{api.OK, api.ErrArg, api.ErrShape, api.ErrWeights} {
		if told[err] == 0 {
			t.Errorf("only %v was told", told)
		}
	}
}

// P25.3: the other kinds, with all shapes.
func TestShapeOfOthers(t *testing.T) {
	for _, a := range shapes() {
		right := a.H >= 1 && a.W >= 1 && a.C >= 1 && a.H <= 16 && a.W <= 16 && a.C <= 1024 && a.H*a.W*a.C <= 1024
		want, flat, wantErr := a, api.Shape{H: 1, W: 1, C: a.H * a.W * a.C}, api.OK
		if !right {
			want, flat, wantErr = api.Shape{}, api.Shape{}, api.ErrShape
		}
		for _, b := range shapes() {
			checkShape(t, api.Node{Kind: api.Act}, a, b, want, wantErr)
			checkShape(t, api.Node{Kind: api.Flat}, a, b, flat, wantErr)
			if a == b {
				checkShape(t, api.Node{Kind: api.Join}, a, b, want, wantErr)
			} else {
				checkShape(t, api.Node{Kind: api.Join}, a, b, api.Shape{}, api.ErrShape)
			}
		}
		for _, p := range append([]int{0, 1, 2, 3, 4, 5}, sample.Far()...) {
			want, wantErr := api.Shape{}, api.ErrShape
			switch {
			case !right:
			case p < 0 || p > 4:
				wantErr = api.ErrArg
			case a.H+2*p <= 16 && a.W+2*p <= 16 && (a.H+2*p)*(a.W+2*p)*a.C <= 1024:
				want, wantErr = api.Shape{H: a.H + p + p, W: a.W + p + p, C: a.C}, api.OK
			}
			checkShape(t, api.Node{Kind: api.Pad, P: p}, a, api.Shape{}, want, wantErr)
		}
	}
}

// P25.3: no other field matters, nor what Check says of it.
func TestShapeOfOtherFields(t *testing.T) {
	s := api.Shape{H: 3, W: 4, C: 2}
	for _, kind := range allKinds {
		n := api.Node{Kind: kind, K: 2, S: 1, P: 1, Out: 2, W: make([]int8, 16), Bias: make([]int32, 2)}
		switch kind {
		case api.Depth:
			n.W = n.W[:8]
		case api.Dense:
			n.W = make([]int8, 48)
		}
		want, err := kinds.Shape(n, s, s)
		if err != api.OK {
			t.Fatalf("kind %d: %d", kind, err)
		}
		n.A, n.B, n.ZA, n.ZB, n.Lo, n.Hi = min64, max64, -128, 127, 127, -128
		n.Q, n.R = api.Quant{Mult: -1, Shift: -1, Zero: 1}, api.Quant{Shift: max64}
		checkShape(t, n, s, s, want, api.OK)
		far := func(p *int, own ...int) {
			kept := *p
			for _, v := range sample.Far() {
				if !slices.Contains(own, kind) {
					*p = v
					checkShape(t, n, s, s, want, api.OK)
				}
			}
			*p = kept
		}
		far(&n.K, windows...)
		far(&n.S, windows...)
		far(&n.P, append(slices.Clone(windows), api.Pad)...)
		far(&n.Out, api.Conv, api.Dense)
		if !slices.Contains(summing, kind) {
			n.W, n.Bias = nil, make([]int32, 9)
			checkShape(t, n, s, s, want, api.OK)
		}
	}
}

// P25.4
func TestPlainTwice(t *testing.T) {
	test := func(n api.Node) {
		t.Helper()
		once := kinds.Plain(n)
		checkNode(t, "Plain of Plain", kinds.Plain(once), once)
		n.Lo, n.Hi = 3, 2
		want := api.OK
		if slices.Contains(scaled, n.Kind) {
			want = api.ErrArg
		}
		for _, q := range sample.Scales() {
			n.Q, n.R = q, q
			checkError(t, kinds.Plain(n), want)
			same := n
			same.Hi = n.Lo
			checkError(t, kinds.Plain(same), api.OK)
		}
		for _, q := range sample.WrongScales() {
			n.Q, n.R = q, q
			got := kinds.Check(kinds.Plain(n))
			if want == api.ErrArg && got != api.ErrQuant || want == api.OK && got != api.OK {
				t.Fatalf("Check(Plain(%+v)) = %d", n, got)
			}
		}
	}
	for _, kind := range allKinds {
		test(full(kind))
		for _, f := range fields() {
			for _, set := range f.sets {
				n := full(kind)
				set(&n)
				test(n)
			}
		}
	}
	for _, kind := range wrongKinds() {
		checkNode(t, "Plain of Plain", kinds.Plain(kinds.Plain(full(kind))), api.Node{})
		checkError(t, kinds.Plain(full(kind)), api.ErrKind)
	}
}

// Rule 6: many weights, where a list is not even asked for.
func TestLongLists(t *testing.T) {
	n := api.Node{Kind: api.Flat, W: make([]int8, 1<<22), Bias: make([]int32, 1<<20)}
	checkError(t, n, api.ErrArg)
	checkNode(t, "Plain", kinds.Plain(n), api.Node{Kind: api.Flat})
	n.Kind = api.Conv
	n.Q.Mult, n.K, n.S, n.Out = 1, 1, 1, 1
	checkError(t, n, api.OK)
	checkNode(t, "Plain", kinds.Plain(n), n)
	checkShape(t, n, api.Shape{H: 1, W: 1, C: 1}, api.Shape{}, api.Shape{}, api.ErrWeights)
}
