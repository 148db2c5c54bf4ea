package heap_test

import (
	"math"
	"slices"
	"testing"

	"cinder/api"
	"cinder/heap"
)

// E1: sizes at their edges.
func TestNewTellsSizes(t *testing.T) {
	for _, c := range []struct {
		young, old int
		want       api.Errno
	}{
		{3, 3, api.OK}, {2, 3, api.ErrRange}, {3, 2, api.ErrRange}, {0, 0, api.ErrRange}, {-3, 30, api.ErrRange},
		{2000, 2000, api.OK}, {2001, 3, api.ErrRange}, {3, 2001, api.ErrRange}, {math.MaxInt, math.MaxInt, api.ErrRange},
		{math.MinInt, 3, api.ErrRange}, {7, 2000, api.OK},
	} {
		h, e := heap.New(c.young, c.old)
		if e != c.want {
			t.Errorf("New(%d, %d) says %d, want %d", c.young, c.old, e, c.want)
		}
		want := api.Heap{}
		if c.want == api.OK {
			want = api.Heap{Words: make([]int, 1+c.young+c.old), Young: c.young, Old: c.old, YoungTop: 1, OldTop: c.young + 1, Next: 1}
		}
		if !same(h, want) {
			t.Errorf("New(%d, %d) is %v", c.young, c.old, h)
		}
	}
}

// E2: words of a thing, and of the next one behind it, in both parts; the document's fifth example.
func TestThingsStandOneBehindTheOther(t *testing.T) {
	b := newBench(t, 10, 12)
	if at := b.make(api.TagInts, 2, false); at != 1 {
		t.Errorf("a row in an empty young part is at %d", at)
	}
	b.make(node, 2, true)
	b.make(failure, 1, true)
	b.make(top, 0, false)
	b.set(1, 0, 70)
	b.set(16, 0, 80)
	want := []int{0, 1, 2, 1, 70, 0, top, 0, 4, 0, 0, node, 2, 2, 0, 0, failure, 1, 3, 80, 0, 0, 0}
	if !slices.Equal(b.h.Words, want) || b.h.YoungTop != 9 || b.h.OldTop != 20 || b.h.Next != 5 {
		t.Errorf("it is %v, want words %v", b.h, want)
	}
}

// E4: each error, with its edges.
func TestMakeTellsErrors(t *testing.T) {
	b := newBench(t, 510, 20)
	b.make(api.TagInts, 4, false)
	b.make(leaf, 5, true)
	for _, c := range []struct {
		tag, length int
		old         bool
		want        api.Errno
	}{
		{0, 0, false, api.ErrKind}, {-1, 0, true, api.ErrKind}, {noClass, 0, false, api.ErrKind}, {math.MaxInt, 0, false, api.ErrKind}, {math.MinInt, 0, true, api.ErrKind},
		{0, -1, false, api.ErrKind}, {noClass, 501, true, api.ErrKind},
		{api.TagInts, -1, false, api.ErrRange}, {api.TagInts, 501, false, api.ErrRange}, {api.TagObjects, -1, true, api.ErrRange}, {api.TagObjects, 501, true, api.ErrRange},
		{api.TagInts, math.MaxInt, false, api.ErrRange}, {api.TagInts, math.MinInt, false, api.ErrRange},
		{leaf, 4, false, api.ErrRange}, {leaf, 6, false, api.ErrRange}, {leaf, 2, true, api.ErrRange}, {top, 1, false, api.ErrRange}, {node, -2, false, api.ErrRange}, {node, math.MaxInt, false, api.ErrRange},
		{api.TagInts, 500, false, api.OK}, {api.TagInts, 500, true, api.ErrFull},
		{api.TagInts, 9, true, api.OK}, {api.TagObjects, 10, true, api.ErrFull}, {api.TagObjects, 9, true, api.OK},
		{node, 2, true, api.OK}, {leaf, 5, false, api.OK}, {top, 0, true, api.OK},
	} {
		h, at, e := heap.Make(b.h, b.k, c.tag, c.length, c.old)
		if e != c.want {
			t.Errorf("Make%v says %d", c, e)
		}
		if e != api.OK && (at != 0 || !isNothing(h)) {
			t.Errorf("Make%v answers %v, %d beside its error", c, h, at)
		}
	}
}

// E4: parts are filled to their last word, and not beyond.
func TestMakeFillsParts(t *testing.T) {
	for _, old := range []bool{false, true} {
		b := newBench(t, 10, 10)
		b.make(api.TagInts, 1, old)
		if _, _, e := heap.Make(b.h, b.k, api.TagInts, 4, old); e != api.ErrFull {
			t.Errorf("old %v: one word too many: %d", old, e)
		}
		b.make(api.TagInts, 3, old)
		if _, _, e := heap.Make(b.h, b.k, top, 0, old); e != api.ErrFull {
			t.Errorf("old %v: a head in a full part: %d", old, e)
		}
		b.make(api.TagInts, 7, !old)
	}
}

// E5: what Tag, Get and Row tell of each address, and that there are no others.
func TestThingsAreToldByAddresses(t *testing.T) {
	b := sample(t)
	want := map[int][]int{ // tag, hash, words
		youngInts: {api.TagInts, 1, 0, 0, 0}, youngNode: {node, 2, 0, youngNode}, youngTop: {top, 3},
		oldObjects: {api.TagObjects, 4, youngNode, oldNode}, oldNode: {node, 5, 0, oldInts}, oldInts: {api.TagInts, 6, youngNode},
		oldLeaf: {leaf, 7, 0, 0, 0, youngTop, 0}, oldNone: {api.TagObjects, 8},
	}
	for at := -2; at < len(b.h.Words)+2; at++ {
		w, is := want[at]
		tag, n, hash, e := heap.Tag(b.h, b.k, at)
		l, f := heap.Row(b.h, b.k, at)
		switch {
		case !is:
			if e != api.ErrNone || f != api.ErrNone || tag != 0 || n != 0 || hash != 0 || len(l) != 0 {
				t.Errorf("%d is no address: %d %d %d %d; %v %d", at, tag, n, hash, e, l, f)
			}
		case e != api.OK || f != api.OK || tag != w[0] || hash != w[1] || n != len(l) || !slices.Equal(l, w[2:]):
			t.Errorf("%d: %d %d %d %d; %v %d, want %v", at, tag, n, hash, e, l, f, w)
		}
		for i := -1; i <= len(l); i++ {
			wantErr, wantWord := api.ErrRange, 0
			if !is {
				wantErr = api.ErrNone
			} else if i >= 0 && i < len(l) {
				wantErr, wantWord = api.OK, w[2+i]
			}
			if x, e := heap.Get(b.h, b.k, at, i); x != wantWord || e != wantErr {
				t.Errorf("Get(%d, %d) is %d, %d", at, i, x, e)
			}
		}
	}
	for _, at := range []int{math.MinInt, math.MaxInt} {
		if _, _, _, e := heap.Tag(b.h, b.k, at); e != api.ErrNone {
			t.Errorf("Tag of %d says %d", at, e)
		}
		if _, e := heap.Get(b.h, b.k, youngInts, at); e != api.ErrRange {
			t.Errorf("word %d says %d", at, e)
		}
	}
}

// E5: each error of Set, in order, and what may be set.
func TestSetTellsErrors(t *testing.T) {
	b := sample(t)
	for _, c := range []struct {
		at, n, value int
		want         api.Errno
	}{
		{0, 0, 0, api.ErrNone}, {2, 0, 0, api.ErrNone}, {15, 0, 0, api.ErrNone}, {oldEnd, 0, 0, api.ErrNone}, {-1, 0, 0, api.ErrNone}, {math.MaxInt, 0, 0, api.ErrNone},
		{2, 9, 2, api.ErrNone},
		{youngInts, -1, 0, api.ErrRange}, {youngInts, 3, 0, api.ErrRange}, {youngTop, 0, 0, api.ErrRange}, {oldObjects, 2, 2, api.ErrRange}, {oldNone, 0, 0, api.ErrRange}, {youngInts, math.MaxInt, 0, api.ErrRange}, {youngInts, math.MinInt, 0, api.ErrRange},
		{youngNode, 1, 2, api.ErrNone}, {youngNode, 1, -1, api.ErrNone}, {oldObjects, 0, oldEnd, api.ErrNone}, {oldLeaf, 2, 15, api.ErrNone}, {oldLeaf, 3, math.MaxInt, api.ErrNone},
		{youngNode, 0, 2, api.OK}, {youngInts, 0, math.MinInt, api.OK}, {oldLeaf, 4, -1, api.OK}, {oldLeaf, 0, math.MaxInt, api.OK},
		{youngNode, 1, 0, api.OK}, {youngNode, 1, oldNone, api.OK}, {oldObjects, 0, oldObjects, api.OK}, {oldLeaf, 2, youngTop, api.OK},
	} {
		h, e := heap.Set(b.h, b.k, c.at, c.n, c.value)
		if e != c.want {
			t.Errorf("Set%v says %d", c, e)
		}
		if e != api.OK && !isNothing(h) {
			t.Errorf("Set%v answers %v beside its error", c, h)
		}
	}
}

// E5: an old thing is Noted, if it is given a young ref, once, by the order of addresses; and is it from then on.
func TestSetNotes(t *testing.T) {
	b := newBench(t, 20, 40)
	young := b.make(node, 2, false)
	first, second, third := b.make(leaf, 5, true), b.make(api.TagObjects, 2, true), b.make(node, 2, true)
	ints := b.make(api.TagInts, 1, true)
	for _, c := range []struct {
		what         string
		at, n, value int
		want         []int
	}{
		{"a number", first, 0, young, nil},
		{"a number behind refs", first, 4, young, nil},
		{"a row of numbers", ints, 0, young, nil},
		{"an old ref", second, 0, third, nil},
		{"null", second, 0, 0, nil},
		{"a young thing's ref to itself", young, 1, young, nil},
		{"a young thing's ref to an old one", young, 1, second, nil},
		{"an old thing's young ref", second, 1, young, []int{second}},
		{"it once more", second, 0, young, []int{second}},
		{"one behind it", third, 1, young, []int{second, third}},
		{"one ahead of it", first, 2, young, []int{first, second, third}},
		{"no more", second, 0, 0, []int{first, second, third}},
		{"none at all", second, 1, third, []int{first, second, third}},
		{"once more", third, 1, young, []int{first, second, third}},
	} {
		b.set(c.at, c.n, c.value)
		if !slices.Equal(b.h.Noted, c.want) {
			t.Errorf("%s: Noted is %v, want %v", c.what, b.h.Noted, c.want)
		}
	}
}

// E6: of a heap whose Next is greatest, nothing but an end is promised.
func TestMakeEndsWhereHashesGoRound(t *testing.T) {
	b := sample(t)
	b.h.Next = math.MaxInt
	if _, at, e := heap.Make(b.h, b.k, top, 0, true); at != oldEnd || e != api.OK {
		t.Errorf("Make says %d, %d", at, e)
	}
	b.h.Next = 1 << 62
	b.make(top, 0, true)
	if e := heap.Check(b.h, b.k); e != api.OK || b.h.Next != 1<<62+1 {
		t.Errorf("Next is %d, and Check says %d", b.h.Next, e)
	}
}
