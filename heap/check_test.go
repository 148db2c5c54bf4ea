package heap_test

import (
	"math"
	"slices"
	"testing"

	"cinder/api"
	"cinder/heap"
)

// spoiling is something that is done to a heap.
type spoiling struct {
	what string
	do   func(h *api.Heap)
	want api.Errno
}

func word(at, value int) func(h *api.Heap) {
	return func(h *api.Heap) { h.Words[at] = value }
}

func noted(l ...int) func(h *api.Heap) {
	return func(h *api.Heap) { h.Noted = l }
}

// E3: each error, with its edges.
func TestCheckTellsErrors(t *testing.T) {
	b := sample(t)
	for _, s := range []spoiling{
		{"as it is", func(h *api.Heap) {}, api.OK},
		{"Young below a head", func(h *api.Heap) { h.Young = 2 }, api.ErrRange},
		{"Young too great", func(h *api.Heap) { h.Young = api.MaxPart + 1 }, api.ErrRange},
		{"Young that goes round", func(h *api.Heap) { h.Young = math.MaxInt }, api.ErrRange},
		{"Old below a head", func(h *api.Heap) { h.Old = 2 }, api.ErrRange},
		{"Old too great", func(h *api.Heap) { h.Old = api.MaxPart + 1 }, api.ErrRange},
		{"both wrong, as many words", func(h *api.Heap) { h.Young, h.Old = 48, 2 }, api.ErrRange},
		{"one word fewer", func(h *api.Heap) { h.Words = h.Words[:50] }, api.ErrForm},
		{"one word more", func(h *api.Heap) { h.Words = append(h.Words, 0) }, api.ErrForm},
		{"no words", func(h *api.Heap) { h.Words = nil }, api.ErrForm},
		{"YoungTop 0", func(h *api.Heap) { h.YoungTop = 0 }, api.ErrRange},
		{"YoungTop behind the old part's first word", func(h *api.Heap) { h.YoungTop = 22 }, api.ErrRange},
		{"OldTop in the young part", func(h *api.Heap) { h.OldTop = 20 }, api.ErrRange},
		{"OldTop behind all", func(h *api.Heap) { h.OldTop = 52 }, api.ErrRange},
		{"OldTop below 0", func(h *api.Heap) { h.OldTop = math.MinInt }, api.ErrRange},
		{"Next 0", func(h *api.Heap) { h.Next = 0 }, api.ErrRange},
		{"Next below 0", func(h *api.Heap) { h.Next = -1 }, api.ErrRange},
		{"YoungTop within a thing", func(h *api.Heap) { h.YoungTop = 9 }, api.ErrForm},
		{"YoungTop within a head", func(h *api.Heap) { h.YoungTop = 13 }, api.ErrForm},
		{"YoungTop behind the things, with words of 0", func(h *api.Heap) { h.YoungTop = 18 }, api.ErrForm},
		{"YoungTop at the part's end", func(h *api.Heap) { h.YoungTop = 21 }, api.ErrForm},
		{"OldTop within a thing", func(h *api.Heap) { h.OldTop = 45 }, api.ErrForm},
		{"OldTop at the words' end", func(h *api.Heap) { h.OldTop = 51 }, api.ErrForm},
		{"tag 0", word(youngInts, 0), api.ErrForm},
		{"tag below 0", word(youngInts, -1), api.ErrForm},
		{"a tag of no class", word(oldNone, noClass), api.ErrForm},
		{"a tag far off", word(oldNone, math.MaxInt), api.ErrForm},
		{"a row of other words", word(youngInts, api.TagObjects), api.OK},
		{"an object with too many words", word(youngInts, node), api.ErrForm},
		{"an object with too few words", word(oldNode, leaf), api.ErrForm},
		{"a length below 0", word(youngTop+1, -3), api.ErrForm},
		{"a length of a whole head below 0", word(oldInts+1, -1), api.ErrForm},
		{"a row's length that is beyond", word(oldNone+1, 6), api.ErrForm},
		{"a length that goes round", word(oldNone+1, math.MaxInt), api.ErrForm},
		{"a length that is less", word(oldInts+1, 0), api.ErrForm},
		{"hash 0", word(youngTop+2, 0), api.ErrRange},
		{"a hash below 0", word(youngTop+2, -5), api.ErrRange},
		{"a hash that is Next", word(oldNone+2, 9), api.ErrRange},
		{"a hash of another one, young and old", word(oldNone+2, 1), api.ErrTwice},
		{"a hash of another one, both young", word(youngTop+2, 2), api.ErrTwice},
		{"Next is greater", func(h *api.Heap) { h.Next = math.MaxInt }, api.OK},
		{"hashes that do not rise", func(h *api.Heap) { h.Words[youngInts+2], h.Words[oldNone+2] = 8, 1 }, api.OK},
		{"a young ref to within a thing", word(youngNode+4, 2), api.ErrNone},
		{"a ref to YoungTop", word(youngNode+4, 15), api.ErrNone},
		{"a ref to OldTop", word(oldNode+4, oldEnd), api.ErrNone},
		{"a ref below 0", word(oldNode+4, -1), api.ErrNone},
		{"a ref far off", word(oldNode+4, math.MaxInt), api.ErrNone},
		{"a row's ref to within a thing", word(oldObjects+4, 22), api.ErrNone},
		{"a ref that is a row's field", word(oldLeaf+5, 2), api.ErrNone},
		{"a number that is no address", word(oldNode+3, 2), api.OK},
		{"a number behind refs that is no address", word(oldLeaf+7, 2), api.OK},
		{"a row of numbers that are no addresses", word(youngInts+3, -7), api.OK},
		{"a ref that is null", word(youngNode+4, 0), api.OK},
		{"a young ref to an old thing", word(youngNode+4, oldNone), api.OK},
		{"word 0", word(0, 1), api.ErrForm},
		{"the word at YoungTop", word(15, 1), api.ErrForm},
		{"the young part's last word", word(20, -1), api.ErrForm},
		{"the word at OldTop", word(oldEnd, 1), api.ErrForm},
		{"the last word", word(50, 1), api.ErrForm},
		{"Noted the other way round", noted(oldLeaf, oldObjects), api.ErrState},
		{"Noted twice", noted(oldObjects, oldObjects, oldLeaf), api.ErrState},
		{"Noted, too, is one without young refs", noted(oldObjects, oldNode, oldLeaf), api.OK},
		{"Noted is one without refs", noted(oldObjects, oldInts, oldLeaf), api.ErrState},
		{"Noted is a row of no objects", noted(oldObjects, oldLeaf, oldNone), api.ErrState},
		{"Noted is a young one", noted(youngNode, oldObjects, oldLeaf), api.ErrState},
		{"Noted is null", noted(0, oldObjects, oldLeaf), api.ErrState},
		{"Noted is no address", noted(oldObjects, 22, oldLeaf), api.ErrState},
		{"Noted is OldTop", noted(oldObjects, oldLeaf, oldEnd), api.ErrState},
		{"nothing is Noted", noted(), api.ErrState},
		{"a row is not Noted", noted(oldLeaf), api.ErrState},
		{"an object is not Noted", noted(oldObjects), api.ErrState},
		{"not Noted, and no young refs", func(h *api.Heap) { h.Noted, h.Words[oldObjects+3] = []int{oldLeaf}, 0 }, api.OK},
	} {
		h := copied(b.h)
		s.do(&h)
		if e := heap.Check(h, b.k); e != s.want {
			t.Errorf("%s: %d, want %d", s.what, e, s.want)
		}
	}
}

// E3: classes without fields have no refs, and may not be Noted.
func TestCheckTellsNotedWithoutRefs(t *testing.T) {
	b := newBench(t, 20, 20)
	for tag, want := range map[int]api.Errno{leaf: api.OK, top: api.ErrState, failure: api.ErrState, node: api.OK} {
		at := b.make(tag, fieldsOf(tag), true)
		h := copied(b.h)
		h.Noted = []int{at}
		if e := heap.Check(h, b.k); e != want {
			t.Errorf("an object of tag %d is noted: %d, want %d", tag, e, want)
		}
	}
}

// E3: an empty part, and a full one, may be.
func TestCheckPassesEdges(t *testing.T) {
	b := newBench(t, 3, 3)
	if e := heap.Check(b.h, b.k); e != api.OK {
		t.Errorf("an empty heap: %d", e)
	}
	b.make(top, 0, false)
	b.make(api.TagInts, 0, true)
	if e := heap.Check(b.h, b.k); e != api.OK {
		t.Errorf("a full heap: %d", e)
	}
	b = newBench(t, api.MaxPart, api.MaxPart)
	b.make(api.TagObjects, api.MaxRow, true)
	if e := heap.Check(b.h, b.k); e != api.OK {
		t.Errorf("the longest row: %d", e)
	}
	h := copied(b.h)
	h.Words[api.MaxPart+2]++
	h.OldTop++
	if e := heap.Check(h, b.k); e != api.ErrForm {
		t.Errorf("a row that is longer: %d", e)
	}
}

// E3: of things whose words are all 0, it is their ends alone that tell.
func TestCheckTellsEnds(t *testing.T) {
	b := newBench(t, 10, 10)
	b.make(api.TagInts, 2, false)
	b.make(api.TagInts, 5, true)
	for _, c := range []struct {
		youngTop, oldTop int
		want             api.Errno
	}{
		{6, 19, api.OK}, {5, 19, api.ErrForm}, {7, 19, api.ErrForm}, {11, 19, api.ErrForm}, {1, 19, api.ErrForm},
		{6, 18, api.ErrForm}, {6, 20, api.ErrForm}, {6, 21, api.ErrForm}, {6, 11, api.ErrForm},
	} {
		h := copied(b.h)
		h.YoungTop, h.OldTop = c.youngTop, c.oldTop
		if e := heap.Check(h, b.k); e != c.want {
			t.Errorf("ends at %d and %d: %d, want %d", c.youngTop, c.oldTop, e, c.want)
		}
	}
}

// E3: Next of a heap in which there is no hash.
func TestCheckTellsNextOfAnEmptyHeap(t *testing.T) {
	b := newBench(t, 3, 3)
	for next, want := range map[int]api.Errno{math.MinInt: api.ErrRange, 0: api.ErrRange, 1: api.OK, 5: api.OK} {
		b.h.Next = next
		if e := heap.Check(b.h, b.k); e != want {
			t.Errorf("Next is %d: %d, want %d", next, e, want)
		}
	}
}

// inOrder has one of each error that Check tells, by the order in which they are told.
func inOrder() []spoiling {
	return []spoiling{
		{"Young", func(h *api.Heap) { h.Young = 2 }, api.ErrRange},
		{"how many words", func(h *api.Heap) { h.Words = h.Words[:50] }, api.ErrForm},
		{"OldTop", func(h *api.Heap) { h.OldTop = 52 }, api.ErrRange},
		{"a tag", word(oldNone, 0), api.ErrForm},
		{"a hash", word(youngInts+2, 0), api.ErrRange},
		{"a hash twice", word(youngTop+2, 5), api.ErrTwice},
		{"a ref", word(oldNode+4, 1000), api.ErrNone},
		{"a word that is not 0", word(0, 1), api.ErrForm},
		{"Noted", noted(oldLeaf, oldObjects), api.ErrState},
	}
}

// E3, P1: of two errors the one that is named first is told.
func TestCheckTellsTheFirstError(t *testing.T) {
	b := sample(t)
	wrong := b.k
	wrong.Supers = nil
	for i, first := range inOrder() {
		for _, second := range inOrder()[i:] {
			h := copied(b.h)
			second.do(&h)
			first.do(&h)
			if e := heap.Check(h, b.k); e != first.want {
				t.Errorf("%s, and %s: %d, want %d", first.what, second.what, e, first.want)
			}
			if e := heap.Check(h, wrong); e != api.ErrState {
				t.Errorf("%s, and not linked: %d", first.what, e)
			}
		}
	}
}

// E3: what is not linked is told, of a heap that is right.
func TestCheckTellsClasses(t *testing.T) {
	b := sample(t)
	wrong := b.k
	wrong.Fields = slices.Clone(b.k.Fields)
	wrong.Fields[3] = wrong.Fields[3][:1]
	if e := heap.Check(b.h, wrong); e != api.ErrState {
		t.Errorf("a class lost a field: %d", e)
	}
	if e := heap.Check(b.h, api.Linked{}); e != api.ErrState {
		t.Errorf("no classes: %d", e)
	}
}

// E3: all others tell what Check tells, ahead of what is wrong with the rest that they are handed.
func TestAllOthersTellCheckFirst(t *testing.T) {
	b := sample(t)
	for _, s := range inOrder() {
		h := copied(b.h)
		s.do(&h)
		for _, at := range []int{youngNode, -1} {
			x, made, e := heap.Make(h, b.k, at, 0, true)
			if e != s.want || made != 0 || !isNothing(x) {
				t.Errorf("%s: Make says %v, %d, %d", s.what, x, made, e)
			}
			if tag, n, hash, e := heap.Tag(h, b.k, at); e != s.want || tag != 0 || n != 0 || hash != 0 {
				t.Errorf("%s: Tag says %d, %d, %d, %d", s.what, tag, n, hash, e)
			}
			if n, e := heap.Get(h, b.k, at, 0); e != s.want || n != 0 {
				t.Errorf("%s: Get says %d, %d", s.what, n, e)
			}
			if x, e := heap.Set(h, b.k, at, 0, 9); e != s.want || !isNothing(x) {
				t.Errorf("%s: Set says %v, %d", s.what, x, e)
			}
			if l, e := heap.Row(h, b.k, at); e != s.want || len(l) != 0 {
				t.Errorf("%s: Row says %v, %d", s.what, l, e)
			}
		}
	}
}
