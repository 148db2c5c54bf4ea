package full_test

import (
	"reflect"
	"slices"
	"testing"

	"cinder/api"
	"cinder/full"
	"cinder/heap"
	"cinder/link"
)

// Tags of the classes, by their places.
const (
	leaf    = api.TagClass + iota // val, next, more, kids: those from 1 on are refs
	top                           // nothing
	failure                       // code
	node                          // val, next: 1 is a ref
	noClass
)

func classes(t *testing.T) api.Linked {
	t.Helper()
	number := api.Kind{Kind: api.KindInt}
	object := api.Kind{Kind: api.KindObject, Class: "Node"}
	k, e := link.Link([]api.Class{
		{Name: "Leaf", Super: "Node", Fields: []api.Field{
			{Name: "more", Kind: api.Kind{Kind: api.KindInts}},
			{Name: "kids", Kind: api.Kind{Kind: api.KindObjects, Class: "Leaf"}}}},
		{Name: "Object"},
		{Name: "Error", Super: "Object", Fields: []api.Field{{Name: "code", Kind: number}}},
		{Name: "Node", Super: "Object", Fields: []api.Field{{Name: "val", Kind: number}, {Name: "next", Kind: object}}},
	})
	if e != api.OK {
		t.Fatalf("Link says %d", e)
	}
	return k
}

// fieldsOf is how many words an object has.
func fieldsOf(tag int) int { return map[int]int{leaf: 4, top: 0, failure: 1, node: 2}[tag] }

func isRef(tag, n int) bool {
	return tag == api.TagObjects || (tag == node || tag == leaf) && n >= 1
}

// bench is a heap on which things are done that must go well.
type bench struct {
	*testing.T
	k api.Linked
	h api.Heap
}

func newBench(t *testing.T, young, old int) *bench {
	t.Helper()
	h, e := heap.New(young, old)
	if e != api.OK {
		t.Fatalf("New(%d, %d) says %d", young, old, e)
	}
	return &bench{t, classes(t), h}
}

func (b *bench) make(tag, length int, old bool) int {
	b.Helper()
	h, at, e := heap.Make(b.h, b.k, tag, length, old)
	if e != api.OK {
		b.Fatalf("Make(%d, %d, %v) says %d of %v", tag, length, old, e, b.h)
	}
	b.h = h
	return at
}

// fill a part with rows of as many words in all.
func (b *bench) fill(words int, old bool) {
	b.Helper()
	for words > 0 {
		n := min(words, 3+api.MaxRow)
		if words > n {
			n = min(n, words-3)
		}
		b.make(api.TagInts, n-3, old)
		words -= n
	}
}

func (b *bench) set(at, n, value int) {
	b.Helper()
	h, e := heap.Set(b.h, b.k, at, n, value)
	if e != api.OK {
		b.Fatalf("Set(%d, %d, %d) says %d of %v", at, n, value, e, b.h)
	}
	b.h = h
}

func (b *bench) live(roots ...int) int {
	b.Helper()
	n, e := full.Live(b.h, b.k, roots)
	if e != api.OK {
		b.Fatalf("Live by %v says %d of %v", roots, e, b.h)
	}
	return n
}

// collect all, which must go well.
func (b *bench) collect(roots ...int) (api.Heap, []int) {
	b.Helper()
	h, l, e := full.Collect(b.h, b.k, roots)
	if e != api.OK {
		b.Fatalf("Collect by %v says %d of %v", roots, e, b.h)
	}
	b.mustBeRight(h)
	return h, l
}

func (b *bench) mustBeRight(h api.Heap) {
	b.Helper()
	if e := heap.Check(h, b.k); e != api.OK {
		b.Fatalf("%v becomes %v, of which Check says %d", b.h, h, e)
	}
}

// space for a thing, asked for without an error.
func (b *bench) space(roots []int, tag, length int) (api.Heap, []int, int, bool) {
	b.Helper()
	h, l, at, ok, e := full.Space(b.h, b.k, roots, tag, length)
	if e != api.OK {
		b.Fatalf("Space(%v, %d, %d) says %d of %v", roots, tag, length, e, b.h)
	}
	b.mustBeRight(h)
	return h, l, at, ok
}

// say looks for the error of all three calls, and nothing beside it; errors of Collect and Space alone come apart.
func (b *bench) say(what string, h api.Heap, roots []int, live, collect, space api.Errno) {
	b.Helper()
	n, e := full.Live(h, b.k, roots)
	if e != live || e != api.OK && n != 0 {
		b.Errorf("%s: Live says %d, %d, want %d", what, n, e, live)
	}
	x, l, e := full.Collect(h, b.k, roots)
	if e != collect || e != api.OK && (len(l) != 0 || !same(x, api.Heap{})) {
		b.Errorf("%s: Collect says %v, %v, %d, want %d", what, x, l, e, collect)
	}
	x, l, at, ok, e := full.Space(h, b.k, roots, api.TagInts, 1)
	if e != space || e != api.OK && (len(l) != 0 || at != 0 || ok || !same(x, api.Heap{})) {
		b.Errorf("%s: Space says %v, %v, %d, %v, %d, want %d", what, x, l, at, ok, e, space)
	}
}

func copied(h api.Heap) api.Heap {
	h.Words, h.Noted = slices.Clone(h.Words), slices.Clone(h.Noted)
	return h
}

func same(a, b api.Heap) bool {
	lists := slices.Equal(a.Words, b.Words) && slices.Equal(a.Noted, b.Noted)
	a.Words, a.Noted, b.Words, b.Noted = nil, nil, nil, nil
	return lists && reflect.DeepEqual(a, b)
}

// draw: numbers that are the same each time.
type draw uint64

func (d *draw) below(n int) int {
	*d = *d*6364136223846793005 + 1442695040888963407
	return int(uint64(*d) >> 33 % uint64(n))
}

// tagAndLength of a thing that there may be.
func (d *draw) tagAndLength(most int) (int, int) {
	tag := 1 + d.below(noClass-1)
	if tag >= api.TagClass {
		return tag, fieldsOf(tag)
	}
	return tag, d.below(most)
}

// grown is a heap with things that lead to each other by chance, and with roots; its parts may be all but full.
func grown(t *testing.T, d *draw) (*bench, []int) {
	t.Helper()
	b := newBench(t, 3+d.below(60), 3+d.below(100))
	ats := []int{0}
	for range 1 + d.below(30) {
		tag, length := d.tagAndLength(5)
		h, at, e := heap.Make(b.h, b.k, tag, length, d.below(2) == 0)
		if e == api.OK {
			b.h = h
			ats = append(ats, at)
		}
	}
	any := func() int { return ats[d.below(len(ats))] }
	for range d.below(50) {
		if h, e := heap.Set(b.h, b.k, any(), d.below(5), any()); e == api.OK {
			b.h = h
		}
	}
	var roots []int
	for range d.below(6) {
		roots = append(roots, any())
	}
	return b, roots
}
