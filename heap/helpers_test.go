package heap_test

import (
	"reflect"
	"slices"
	"testing"

	"cinder/api"
	"cinder/heap"
	"cinder/link"
)

// Tags of the classes, by their places.
const (
	leaf    = api.TagClass + iota // val, next, more, kids, size: those from 1 to 3 are refs
	top                           // nothing
	failure                       // code
	node                          // val, next: 1 is a ref
	noClass
)

// classes has one ahead of the one above it, and fields of all kinds.
func classes(t *testing.T) api.Linked {
	t.Helper()
	number := api.Kind{Kind: api.KindInt}
	object := api.Kind{Kind: api.KindObject, Class: "Node"}
	k, e := link.Link([]api.Class{
		{Name: "Leaf", Super: "Node", Fields: []api.Field{
			{Name: "more", Kind: api.Kind{Kind: api.KindInts}},
			{Name: "kids", Kind: api.Kind{Kind: api.KindObjects, Class: "Leaf"}},
			{Name: "size", Kind: number}}},
		{Name: "Object"},
		{Name: "Error", Super: "Object", Fields: []api.Field{{Name: "code", Kind: number}}},
		{Name: "Node", Super: "Object", Fields: []api.Field{{Name: "val", Kind: number}, {Name: "next", Kind: object}}},
	})
	if e != api.OK {
		t.Fatalf("Link says %d", e)
	}
	return k
}

// fieldsOf is how many words an object has.
func fieldsOf(tag int) int { return map[int]int{leaf: 5, top: 0, failure: 1, node: 2}[tag] }

func isRef(tag, n int) bool {
	return tag == api.TagObjects || tag == node && n == 1 || tag == leaf && n >= 1 && n <= 3
}

// bench is a heap on which things are done that must go well.
type bench struct {
	*testing.T
	k api.Linked
	h api.Heap
}

func newBench(t *testing.T, young, old int) *bench {
	t.Helper()
	h, e := heap.New(young, old)
	if e != api.OK {
		t.Fatalf("New(%d, %d) says %d", young, old, e)
	}
	return &bench{t, classes(t), h}
}

func (b *bench) make(tag, length int, old bool) int {
	b.Helper()
	h, at, e := heap.Make(b.h, b.k, tag, length, old)
	if e != api.OK {
		b.Fatalf("Make(%d, %d, %v) says %d of %v", tag, length, old, e, b.h)
	}
	b.h = h
	return at
}

func (b *bench) set(at, n, value int) {
	b.Helper()
	h, e := heap.Set(b.h, b.k, at, n, value)
	if e != api.OK {
		b.Fatalf("Set(%d, %d, %d) says %d of %v", at, n, value, e, b.h)
	}
	b.h = h
}

// Addresses of the things of sample.
const (
	youngInts  = 1  // 3 words
	youngNode  = 7  // next: itself
	youngTop   = 12 // no words
	oldObjects = 21 // 2 words: youngNode, oldNode
	oldNode    = 26 // next: oldInts, which is no node
	oldInts    = 31 // 1 word: youngNode's address, as a number
	oldLeaf    = 35 // kids: youngTop
	oldNone    = 43 // a row of no objects
	oldEnd     = 46
)

// sample has young and old things with refs of all kinds, and room in both parts.
func sample(t *testing.T) *bench {
	t.Helper()
	b := newBench(t, 20, 30)
	got := []int{
		b.make(api.TagInts, 3, false), b.make(node, 2, false), b.make(top, 0, false),
		b.make(api.TagObjects, 2, true), b.make(node, 2, true), b.make(api.TagInts, 1, true), b.make(leaf, 5, true), b.make(api.TagObjects, 0, true),
	}
	if want := []int{youngInts, youngNode, youngTop, oldObjects, oldNode, oldInts, oldLeaf, oldNone}; !slices.Equal(got, want) {
		t.Fatalf("things are at %v, want %v", got, want)
	}
	b.set(youngNode, 1, youngNode)
	b.set(oldLeaf, 3, youngTop)
	b.set(oldObjects, 0, youngNode)
	b.set(oldObjects, 1, oldNode)
	b.set(oldNode, 1, oldInts)
	b.set(oldInts, 0, youngNode)
	return b
}

func copied(h api.Heap) api.Heap {
	h.Words, h.Noted = slices.Clone(h.Words), slices.Clone(h.Noted)
	return h
}

func same(a, b api.Heap) bool {
	lists := slices.Equal(a.Words, b.Words) && slices.Equal(a.Noted, b.Noted)
	a.Words, a.Noted, b.Words, b.Noted = nil, nil, nil, nil
	return lists && reflect.DeepEqual(a, b)
}

func isNothing(h api.Heap) bool { return same(h, api.Heap{}) }

// draw: numbers that are the same each time.
type draw uint64

func (d *draw) below(n int) int {
	*d = *d*6364136223846793005 + 1442695040888963407
	return int(uint64(*d) >> 33 % uint64(n))
}
