package bundle_test

import (
	"reflect"
	"slices"
	"testing"

	"stepwell/api"
	"stepwell/bundle"
	"stepwell/lot"
)

// own is a value whose lists are in other memory; those that are empty are nil.
func own(v reflect.Value) reflect.Value {
	r := reflect.New(v.Type()).Elem()
	switch v.Kind() {
	case reflect.Struct:
		for i := range v.NumField() {
			r.Field(i).Set(own(v.Field(i)))
		}
	case reflect.Slice:
		for i := range v.Len() {
			r.Set(reflect.Append(r, own(v.Index(i))))
		}
	default:
		r.Set(v)
	}
	return r
}

// apart is the same bundle with lists of its own.
func apart(u api.Bundle) api.Bundle { return own(reflect.ValueOf(u)).Interface().(api.Bundle) }

// equal tells whether bundles are equal but for the difference between an empty list and none.
func equal(a, b api.Bundle) bool { return reflect.DeepEqual(apart(a), apart(b)) }

// parts visits all fields of a value that can be changed, its lists, and what is in these.
func parts(v reflect.Value, visit func(v reflect.Value)) {
	switch v.Kind() {
	case reflect.Struct:
		for i := range v.NumField() {
			parts(v.Field(i), visit)
		}
		return
	case reflect.Slice:
		for i := range v.Len() {
			parts(v.Index(i), visit)
		}
	}
	visit(v)
}

// others is what a value may be changed to.
func others(v reflect.Value) []reflect.Value {
	var l []reflect.Value
	switch v.Kind() {
	case reflect.Slice:
		l = append(l, reflect.Append(own(v), reflect.Zero(v.Type().Elem())))
		if size := v.Len(); size > 0 {
			l = append(l, v.Slice(0, size-1), v.Slice(1, size), reflect.Zero(v.Type()), reflect.AppendSlice(own(v), own(v)))
		}
	case reflect.Bool:
		l = append(l, reflect.ValueOf(!v.Bool()))
	default:
		for _, by := range []int64{1, -1, 1 << 8, 1 << 32, -1 << 63} {
			o := reflect.New(v.Type()).Elem()
			if o.SetInt(v.Int() + by); o.Int() != v.Int() {
				l = append(l, o)
			}
		}
	}
	return l
}

// full is a bundle, not a valid one, of which no field is zero; no two numbers that stand beside one another are equal.
func full() api.Bundle {
	n := api.Node{
		Kind: 1, A: 2, B: 3, K: 4, S: 5, P: 6, Out: 7, ZA: 8, ZB: 9, W: []int8{10, 11, -12}, Bias: []int32{13, -14},
		Q: api.Quant{Mult: 15, Shift: 16, Zero: 17}, R: api.Quant{Mult: 18, Shift: 19, Zero: 20}, Lo: 21, Hi: 22,
	}
	b := api.Block{Nodes: []api.Node{n, {Kind: -1}, n}, Exit: true, Head: api.Head{W: []int8{23, 24}, Bias: []int32{25, 26, 27}, Need: 28}}
	m := api.Model{Blocks: []api.Block{b, {}, b}}
	return api.Bundle{Input: api.Shape{H: 29, W: 30, C: 31}, Classes: 32, Models: []api.Model{m, {}, m, {Blocks: []api.Block{{Head: api.Head{Need: -1}}}}}}
}

// some visits bundles, valid and not.
func some(visit func(u api.Bundle)) {
	visit(api.Bundle{})
	visit(full())
	visit(models(nil))
	visit(models([]api.Block{{}}, make([]api.Block, 9), nil, nil, nil))
	visit(models([]api.Block{{Nodes: make([]api.Node, 12)}}))
	lot.Bundles(visit)
}

// checkSame tells whether Same reports this, whichever comes first.
func checkSame(t *testing.T, a, b api.Bundle, want bool) {
	t.Helper()
	if bundle.Same(a, b) != want || bundle.Same(b, a) != want {
		t.Fatalf("%+v and %+v: want %t", a, b, want)
	}
}

// P35.3: equal in other memory; not equal as soon as one field is another one.
func TestSame(t *testing.T) {
	count := 0
	some(func(u api.Bundle) {
		checkSame(t, u, u, true)
		checkSame(t, u, apart(u), true)
	})
	for _, u := range []api.Bundle{{}, full(), models(nil, []api.Block{exit(9, flat)}, nil)} {
		changed := apart(u)
		parts(reflect.ValueOf(&changed).Elem(), func(v reflect.Value) {
			was := reflect.New(v.Type()).Elem()
			was.Set(v)
			for _, o := range others(v) {
				v.Set(o)
				checkSame(t, u, changed, false)
				count++
			}
			v.Set(was)
			checkSame(t, u, changed, true)
		})
	}
	if count < 1000 {
		t.Errorf("only %d changes were made", count)
	}
	a := full()
	b := apart(a)
	slices.Reverse(b.Models[:2])
	checkSame(t, a, b, false)
	b = apart(a)
	slices.Reverse(b.Models[0].Blocks[:2])
	checkSame(t, a, b, false)
	b = apart(a)
	slices.Reverse(b.Models[0].Blocks[0].Nodes[:2])
	checkSame(t, a, b, false)
}

// P35.3: a list that is empty is equal to one that is none.
func TestSameEmpty(t *testing.T) {
	u := full()
	empty := apart(u)
	parts(reflect.ValueOf(&empty).Elem(), func(v reflect.Value) {
		if v.Kind() == reflect.Slice && v.Len() == 0 {
			v.Set(reflect.MakeSlice(v.Type(), 0, 3))
		}
	})
	if reflect.DeepEqual(u, empty) {
		t.Fatal("no list was changed")
	}
	checkSame(t, u, empty, true)
	checkSame(t, api.Bundle{Models: []api.Model{}}, api.Bundle{}, true)
	checkSame(t, api.Bundle{Models: []api.Model{{}}}, api.Bundle{}, false)
	if c := bundle.Copy(empty); !bundle.Same(c, u) || !equal(c, u) {
		t.Errorf("the copy of %+v is %+v", empty, c)
	}
}

// place is where a list is, as far as its capacity goes.
type place struct{ from, to uintptr }

// places is where all lists of a bundle are, up to their capacity, each as often as it is there.
func places(u api.Bundle) []place {
	var l []place
	parts(reflect.ValueOf(&u).Elem(), func(v reflect.Value) {
		if v.Kind() == reflect.Slice && !v.IsNil() {
			l = append(l, place{v.Pointer(), v.Pointer() + uintptr(v.Cap())*v.Type().Elem().Size()})
		}
	})
	return l
}

// overlap tells whether two lists share memory; one without any does if it begins within the other, or behind it.
func overlap(a, b place) bool {
	if a.from == a.to || b.from == b.to {
		return a != b && a.from <= b.to && b.from <= a.to
	}
	return a.from < b.to && b.from < a.to
}

// checkApart tells whether no list of a bundle shares memory with another one of it, or with one of these.
func checkApart(t *testing.T, u api.Bundle, those ...place) {
	t.Helper()
	l := places(u)
	for i, a := range l {
		for _, b := range slices.Concat(l[:i], those) {
			if overlap(a, b) {
				t.Fatalf("lists of %+v share memory", u)
			}
		}
	}
}

// P35.3: an equal bundle, valid or not, in other memory; what was copied stays as it is.
func TestCopy(t *testing.T) {
	some(func(u api.Bundle) {
		before := apart(u)
		c := bundle.Copy(u)
		if !equal(c, before) || !equal(u, before) {
			t.Fatalf("the copy of %+v is %+v; it became %+v", before, c, u)
		}
	})
	some(func(u api.Bundle) {
		c, d := bundle.Copy(u), bundle.Copy(u)
		checkApart(t, c, append(places(u), places(d)...)...)
	})
}

// P35.3, rule 2: lists that share memory in what is copied do not in the copy; nor do empty ones that have some.
func TestCopyShared(t *testing.T) {
	b := full().Models[0].Blocks[0]
	b.Nodes = slices.Repeat(b.Nodes[:1], 3)
	b.Head.W, b.Head.Bias = b.Nodes[0].W[1:], b.Nodes[0].Bias[:1]
	m := api.Model{Blocks: slices.Repeat([]api.Block{b}, 3)}
	m.Blocks[1].Nodes, m.Blocks[1].Head.W, m.Blocks[1].Head.Bias = b.Nodes[:0], b.Head.W[:0:0], b.Head.Bias[1:]
	u := models(m.Blocks, m.Blocks, m.Blocks[:0], m.Blocks[2:2:2])
	before := apart(u)
	c := bundle.Copy(u)
	if !equal(c, before) {
		t.Fatalf("the copy of %+v is %+v", before, c)
	}
	checkApart(t, c, places(u)...)
	forget(c)
	if !equal(u, before) {
		t.Fatalf("%+v became %+v with its copy", before, u)
	}
}

// forget makes all numbers of a bundle's lists 0, up to their capacity.
func forget(u api.Bundle) {
	parts(reflect.ValueOf(&u).Elem(), func(v reflect.Value) {
		if v.Kind() == reflect.Slice {
			whole := v.Slice(0, v.Cap())
			for i := range whole.Len() {
				whole.Index(i).SetZero()
			}
		}
	})
}
