package link_test

import (
	"slices"
	"strconv"
	"testing"

	"cinder/api"
	"cinder/link"
)

var kindInt = api.Kind{Kind: api.KindInt}

func object(class string) api.Kind { return api.Kind{Kind: api.KindObject, Class: class} }

func objects(class string) api.Kind { return api.Kind{Kind: api.KindObjects, Class: class} }

// small is no more than what may be linked.
func small() []api.Class {
	return []api.Class{
		{Name: "Object"},
		{Name: "Error", Super: "Object", Fields: []api.Field{{Name: "code", Kind: kindInt}}},
	}
}

// tree has classes ahead of those above them, names that are taken over, and one that is not just under the next.
//
//	Object: Error: Late; Object: Node: Leaf: Tip
func tree() []api.Class {
	return []api.Class{
		{Name: "Tip", Super: "Leaf", Fields: []api.Field{{Name: "end", Kind: objects("Tip")}},
			Methods: []api.Method{{Name: "last"}, {Name: "walk", Args: []api.Kind{kindInt, object("Node")}, Returns: kindInt}}},
		{Name: "Late", Super: "Error", Fields: []api.Field{{Name: "when", Kind: kindInt}}},
		{Name: "Error", Super: "Object", Fields: []api.Field{{Name: "code", Kind: kindInt}}},
		{Name: "Leaf", Super: "Node", Methods: []api.Method{{Name: "own", Static: true}, {Name: "main"}}},
		{Name: "Node", Super: "Object", Fields: []api.Field{{Name: "val", Kind: kindInt}, {Name: "next", Kind: object("Node")}},
			Methods: []api.Method{
				{Name: "walk", Args: []api.Kind{kindInt, object("Node")}, Returns: kindInt,
					Handlers: []api.Handler{{To: 1, Class: "Late"}}},
				{Name: "side"},
			}},
		{Name: "Object", Methods: []api.Method{{Name: "main", Code: "\x1b"}}},
	}
}

// Numbers of the tree's classes.
const (
	tip = iota
	late
	failure
	leaf
	node
	top
)

func mustLink(t *testing.T, l []api.Class) api.Linked {
	t.Helper()
	k, e := link.Link(l)
	if e != api.OK {
		t.Fatalf("Link says %d of %v", e, l)
	}
	return k
}

func repeat[T any](n int, one func(i int) T) []T {
	var l []T
	for i := range n {
		l = append(l, one(i))
	}
	return l
}

// draw: numbers that are the same each time.
type draw uint64

func (d *draw) below(n int) int {
	*d = *d*6364136223846793005 + 1442695040888963407
	return int(uint64(*d) >> 33 % uint64(n))
}

// classes that hang together, most times: fields may be there twice, or too many.
func (d *draw) classes() []api.Class {
	l := small()
	for i := range d.below(api.MaxClasses - 1) {
		c := api.Class{Name: "C" + strconv.Itoa(i), Super: l[d.below(len(l))].Name}
		for range d.below(3) {
			c.Fields = append(c.Fields, api.Field{Name: "f" + strconv.Itoa(d.below(40)), Kind: object("Object")})
		}
		for m := range 4 {
			if d.below(2) == 0 {
				c.Methods = append(c.Methods, api.Method{Name: "m" + strconv.Itoa(m+d.below(2)*4), Args: repeat(m, func(int) api.Kind { return kindInt })})
			}
		}
		c.Methods = append(c.Methods, api.Method{Name: "own" + strconv.Itoa(i), Static: true})
		l = append(l, c)
	}
	for i := range l {
		j := d.below(i + 1)
		l[i], l[j] = l[j], l[i]
	}
	return l
}

// isUnder walks up by names, as no linked list does it.
func isUnder(l []api.Class, a, b string) bool {
	for a != b && a != "" {
		at := slices.IndexFunc(l, func(c api.Class) bool { return c.Name == a })
		a = l[at].Super
	}
	return a == b
}

// staticIsNamedTwice holds each class against all that are above it, however far.
func staticIsNamedTwice(l []api.Class) bool {
	for _, a := range l {
		for _, b := range l {
			if a.Name != b.Name && isUnder(l, a.Name, b.Name) && haveStaticName(a.Methods, b.Methods) {
				return true
			}
		}
	}
	return false
}

func haveStaticName(a, b []api.Method) bool {
	return slices.ContainsFunc(a, func(m api.Method) bool {
		return slices.ContainsFunc(b, func(n api.Method) bool { return m.Name == n.Name && (m.Static || n.Static) })
	})
}
