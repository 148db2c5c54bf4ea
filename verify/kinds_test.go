package verify_test

import (
	"testing"

	"cinder/api"
	"cinder/verify"
)

func everyKind() []api.Kind {
	return kinds(number, row, null, anything,
		object("Object"), object("Error"), object("Late"), object("Node"), object("Leaf"),
		objects("Object"), objects("Error"), objects("Late"), objects("Node"), objects("Leaf"))
}

func mustFit(t *testing.T, k api.Linked, a, b api.Kind) bool {
	t.Helper()
	fits, e := verify.Fits(k, a, b)
	if e != api.OK {
		t.Fatalf("%v fits %v: %d", a, b, e)
	}
	return fits
}

func mustJoin(t *testing.T, k api.Linked, a, b api.Kind) api.Kind {
	t.Helper()
	join, e := verify.Join(k, a, b)
	if e != api.OK {
		t.Fatalf("%v and %v: %d", a, b, e)
	}
	return join
}

// D1: what each kind fits, beside itself and KindAny.
func TestFits(t *testing.T) {
	k := mustLink(t, base())
	things := kinds(row, object("Object"), object("Error"), object("Late"), object("Node"), object("Leaf"),
		objects("Object"), objects("Error"), objects("Late"), objects("Node"), objects("Leaf"))
	further := map[api.Kind][]api.Kind{
		null:            things,
		row:             kinds(object("Object")),
		object("Error"): kinds(object("Object")),
		object("Late"):  kinds(object("Object"), object("Error")),
		object("Node"):  kinds(object("Object")),
		object("Leaf"):  kinds(object("Object"), object("Node")),
	}
	for _, a := range things {
		if a.Kind == api.KindObjects {
			further[a] = kinds(object("Object"))
		}
	}
	for _, a := range everyKind() {
		for _, b := range everyKind() {
			want := a == b || b == anything
			for _, c := range further[a] {
				want = want || b == c
			}
			if got := mustFit(t, k, a, b); got != want {
				t.Errorf("%v fits %v: %v", a, b, got)
			}
		}
	}
}

// D1: joins.
func TestJoin(t *testing.T) {
	k := mustLink(t, base())
	for _, c := range []struct{ a, b, want api.Kind }{
		{number, number, number},
		{number, null, anything},
		{number, row, anything},
		{number, object("Object"), anything},
		{number, anything, anything},
		{null, anything, anything},
		{null, null, null},
		{null, row, row},
		{null, objects("Leaf"), objects("Leaf")},
		{null, object("Leaf"), object("Leaf")},
		{row, object("Leaf"), object("Object")},
		{row, objects("Leaf"), object("Object")},
		{row, object("Object"), object("Object")},
		{object("Leaf"), object("Node"), object("Node")},
		{object("Leaf"), object("Leaf"), object("Leaf")},
		{object("Leaf"), object("Late"), object("Object")},
		{object("Late"), object("Error"), object("Error")},
		{objects("Leaf"), objects("Node"), object("Object")},
		{objects("Leaf"), objects("Leaf"), objects("Leaf")},
		{objects("Leaf"), object("Leaf"), object("Object")},
		{objects("Leaf"), anything, anything},
	} {
		if got := mustJoin(t, k, c.a, c.b); got != c.want {
			t.Errorf("%v and %v: %v, want %v", c.a, c.b, got, c.want)
		}
		if got := mustJoin(t, k, c.b, c.a); got != c.want {
			t.Errorf("%v and %v: %v, want %v", c.b, c.a, got, c.want)
		}
	}
}

// D1: the lowest class that both are under is not always one of both, nor TopClass.
func TestJoinOfObjectsBesideEachOther(t *testing.T) {
	l := append(base(), api.Class{Name: "Twig", Super: "Node"}, api.Class{Name: "Low", Super: "Leaf"})
	k := mustLink(t, l)
	if got := mustJoin(t, k, object("Low"), object("Twig")); got != object("Node") {
		t.Errorf("got %v", got)
	}
}

// D6, and the whole: a join is the least kind that both fit.
func TestJoinIsLeast(t *testing.T) {
	k := mustLink(t, base())
	for _, a := range everyKind() {
		for _, b := range everyKind() {
			join := mustJoin(t, k, a, b)
			if !mustFit(t, k, a, join) || !mustFit(t, k, b, join) {
				t.Errorf("%v and %v do not fit %v", a, b, join)
			}
			for _, c := range everyKind() {
				if mustFit(t, k, a, c) && mustFit(t, k, b, c) && !mustFit(t, k, join, c) {
					t.Errorf("%v and %v fit %v, but %v does not", a, b, c, join)
				}
			}
		}
	}
}

// D1, P1: errors, kind by kind.
func TestKindsThatAreNone(t *testing.T) {
	k := mustLink(t, base())
	for _, c := range []struct {
		a    api.Kind
		want api.Errno
	}{
		{api.Kind{}, api.ErrKind},
		{api.Kind{Class: "Node"}, api.ErrKind},
		{api.Kind{Kind: -1}, api.ErrKind},
		{api.Kind{Kind: 7}, api.ErrKind},
		{api.Kind{Kind: 7, Class: "Node"}, api.ErrKind},
		{api.Kind{Kind: 1 << 40}, api.ErrKind},
		{api.Kind{Kind: api.KindInt, Class: "Node"}, api.ErrKind},
		{api.Kind{Kind: api.KindInts, Class: "Node"}, api.ErrKind},
		{api.Kind{Kind: api.KindNull, Class: "Node"}, api.ErrKind},
		{api.Kind{Kind: api.KindAny, Class: "Node"}, api.ErrKind},
		{object(""), api.ErrKind},
		{objects(""), api.ErrKind},
		{object("No de"), api.ErrKind},
		{objects("abcdefghijklmnopqrstu"), api.ErrKind},
		{object("Q"), api.ErrNone},
		{objects("node"), api.ErrNone},
	} {
		for _, pair := range [][2]api.Kind{{c.a, number}, {number, c.a}, {c.a, c.a}, {null, c.a}, {c.a, anything}} {
			if fits, e := verify.Fits(k, pair[0], pair[1]); fits || e != c.want {
				t.Errorf("%v: Fits says %v, %d", pair, fits, e)
			}
			if join, e := verify.Join(k, pair[0], pair[1]); join != (api.Kind{}) || e != c.want {
				t.Errorf("%v: Join says %v, %d", pair, join, e)
			}
		}
	}
	if _, e := verify.Fits(k, object("Q"), api.Kind{}); e != api.ErrNone {
		t.Errorf("the first one is told of first: %d", e)
	}
	if _, e := verify.Join(k, api.Kind{}, object("Q")); e != api.ErrKind {
		t.Errorf("the first one is told of first: %d", e)
	}
}

// D1, D4, D5: what is not linked is told first.
func TestNotLinkedIsToldFirst(t *testing.T) {
	k := mustLink(t, base())
	k.Supers[leaf] = top
	if fits, e := verify.Fits(k, api.Kind{}, number); fits || e != api.ErrState {
		t.Errorf("Fits says %v, %d", fits, e)
	}
	if join, e := verify.Join(k, number, api.Kind{}); join != (api.Kind{}) || e != api.ErrState {
		t.Errorf("Join says %v, %d", join, e)
	}
	if states, f := verify.Method(k, -1, 99); len(states) != 0 || f != (api.Fault{Err: api.ErrState}) {
		t.Errorf("Method says %v, %v", states, f)
	}
	if a, b, f := verify.All(k); a != 0 || b != 0 || f != (api.Fault{Err: api.ErrState}) {
		t.Errorf("All says %d, %d, %v", a, b, f)
	}
	if _, _, f := verify.All(api.Linked{}); f != (api.Fault{Err: api.ErrState}) {
		t.Errorf("All of nothing says %v", f)
	}
}
