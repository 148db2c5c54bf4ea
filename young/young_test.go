package young_test

import (
	"math"
	"slices"
	"testing"

	"cinder/api"
	"cinder/young"
)

// F1, F2: the document's sixth example.
func TestExample(t *testing.T) {
	b := newBench(t, 20, 20)
	row := b.make(api.TagInts, 2, false)
	h, roots := b.collect(row)
	if !slices.Equal(roots, []int{21}) {
		t.Errorf("it is at %v", roots)
	}
	if n, e := young.Room(h, b.k); n != 15 || e != api.OK {
		t.Errorf("%d words are left, %d", n, e)
	}
}

// F1: word by word: first roots, then what is Noted, then what these lead to; each goes once; the rest is gone.
func TestCollectMovesInOrder(t *testing.T) {
	b := newBench(t, 60, 80)
	far := b.make(top, 0, false)              // 1: by first alone
	gone := b.make(node, 2, false)            // 4: by nothing, and leads to first
	late := b.make(failure, 1, false)         // 9: by noted's second word
	early := b.make(api.TagInts, 1, false)    // 13: by noted's first word
	second := b.make(node, 2, false)          // 17: by roots, and by noted
	first := b.make(api.TagObjects, 4, false) // 22: by roots
	most := b.make(leaf, 4, false)            // 29: by second alone
	noted := b.make(api.TagObjects, 3, true)  // 61
	plain := b.make(api.TagObjects, 1, true)  // 67: to noted
	notedToo := b.make(node, 2, true)         // 71
	b.set(gone, 1, first)
	for n, at := range []int{plain, first, far, late} {
		b.set(first, n, at)
	}
	b.set(second, 0, first)
	b.set(second, 1, most)
	b.set(most, 0, 5)
	b.set(most, 3, second)
	b.set(early, 0, far)
	b.set(late, 0, 6)
	b.set(notedToo, 1, late)
	for n, at := range []int{early, second, early} {
		b.set(noted, n, at)
	}
	b.set(plain, 0, noted)
	h, roots := b.collect(0, first, plain, second, first, 0)
	if want := []int{0, 76, 67, 83, 76, 0}; !slices.Equal(roots, want) {
		t.Errorf("roots are %v, want %v", roots, want)
	}
	want := slices.Concat(make([]int, 61), []int{
		api.TagObjects, 3, 8, 88, 83, 88, // noted, 61
		api.TagObjects, 1, 9, 61, // plain, 67
		node, 2, 10, 0, 92, // notedToo, 71
		api.TagObjects, 4, 6, 67, 76, 96, 92, // first, 76
		node, 2, 5, first, 99, // second, 83: its number is no ref
		api.TagInts, 1, 4, far, // early, 88
		failure, 1, 3, 6, // late, 92
		top, 0, 1, // far, 96
		leaf, 4, 7, 5, 0, 0, 83, // most, 99
	}, make([]int, 35))
	if !slices.Equal(h.Words, want) {
		t.Errorf("words are\n%v, want\n%v", h.Words, want)
	}
	if h.YoungTop != 1 || h.OldTop != 106 || len(h.Noted) != 0 || h.Next != b.h.Next || h.Young != 60 || h.Old != 80 {
		t.Errorf("it is %v", h)
	}
}

// F1: what a Noted thing leads to goes, whether somebody leads to that or not; what an old one has as a number does not.
func TestNotedThingsLead(t *testing.T) {
	b := newBench(t, 20, 30)
	number, noted := b.make(top, 0, false), b.make(failure, 1, false)
	at := b.make(node, 2, true)
	b.set(at, 0, number)
	b.set(at, 1, noted)
	h, roots := b.collect()
	if len(roots) != 0 || h.OldTop != 30 || h.Words[at+3] != number || h.Words[at+4] != 26 {
		t.Errorf("it is %v, roots %v", h, roots)
	}
	b.set(at, 1, 0)
	if h, _ := b.collect(at); h.OldTop != 26 || len(h.Noted) != 0 {
		t.Errorf("its ref is null, and it is %v", h)
	}
}

// F1: a heap with nothing young, and one with nothing at all.
func TestCollectOfNothing(t *testing.T) {
	b := newBench(t, 3, 3)
	if h, roots := b.collect(0, 0); !same(h, b.h) || !slices.Equal(roots, []int{0, 0}) {
		t.Errorf("it is %v, %v", h, roots)
	}
	at := b.make(top, 0, true)
	if h, roots := b.collect(at); !same(h, b.h) || !slices.Equal(roots, []int{at}) {
		t.Errorf("it is %v, %v", h, roots)
	}
	b.h.Words[at], b.h.Words[at+1] = api.TagObjects, 0
	b.says("there is no room for more, nor need of it", b.h, nil, api.OK)
}

// F2: roots that may not be, ahead of there being no room.
func TestCollectTellsRoots(t *testing.T) {
	for _, room := range []bool{true, false} {
		b := newBench(t, 30, 30)
		at := b.make(node, 2, false)
		old := b.make(node, 2, true)
		want := api.OK
		if !room {
			b.make(api.TagInts, 18, true)
			want = api.ErrFull
		}
		many := make([]int, 1000)
		many[999] = at
		b.says("1000 roots", b.h, many, want)
		b.says("1001 roots", b.h, append(many, 0), api.ErrMany)
		b.says("1001 roots that are none", b.h, slices.Repeat([]int{-1}, 1001), api.ErrMany)
		b.says("no roots", b.h, nil, want)
		b.says("both", b.h, []int{old, at, 0}, want)
		for _, no := range []int{-1, at + 1, at + 5, old + 3, b.h.OldTop, 60, 61, math.MinInt, math.MaxInt} {
			b.says("no address", b.h, []int{at, no, 0}, api.ErrNone)
		}
	}
}

// F2: room for all young things, whether they are reached or not.
func TestRoom(t *testing.T) {
	for _, c := range []struct{ youngWords, oldWords, room int }{
		{0, 0, 20}, {0, 7, 13}, {8, 0, 12}, {13, 7, 0}, {14, 7, -1}, {0, 20, 0}, {3, 20, -3}, {30, 20, -30},
	} {
		b := newBench(t, 30, 20)
		var roots []int
		if c.youngWords > 0 {
			roots = append(roots, b.make(api.TagInts, c.youngWords-api.HeadWords, false))
		}
		if c.oldWords > 0 {
			b.make(api.TagInts, c.oldWords-api.HeadWords, true)
		}
		if n, e := young.Room(b.h, b.k); n != c.room || e != api.OK {
			t.Errorf("%v: Room is %d, %d", c, n, e)
		}
		want := api.OK
		if c.room < 0 {
			want = api.ErrFull
		}
		b.says("all are reached", b.h, roots, want)
		b.says("none is reached", b.h, nil, want)
	}
}

// F2: what Check says of a heap is told ahead of all.
func TestCallsTellCheckFirst(t *testing.T) {
	b := newBench(t, 20, 20)
	at, old := b.make(node, 2, false), b.make(node, 2, true)
	b.set(old, 1, at)
	wrong := b.k
	wrong.Targets = nil
	if n, e := young.Room(b.h, wrong); n != 0 || e != api.ErrState {
		t.Errorf("not linked: Room says %d, %d", n, e)
	}
	if _, _, e := young.Collect(b.h, wrong, []int{-1}); e != api.ErrState {
		t.Errorf("not linked: Collect says %d", e)
	}
	for _, c := range []struct {
		what string
		do   func(h *api.Heap)
		want api.Errno
	}{
		{"Young", func(h *api.Heap) { h.Young = 2 }, api.ErrRange},
		{"no words", func(h *api.Heap) { h.Words = nil }, api.ErrForm},
		{"YoungTop", func(h *api.Heap) { h.YoungTop = 7 }, api.ErrForm},
		{"Next", func(h *api.Heap) { h.Next = 2 }, api.ErrRange},
		{"a hash", func(h *api.Heap) { h.Words[at+2] = 2 }, api.ErrTwice},
		{"a ref", func(h *api.Heap) { h.Words[at+4] = 2 }, api.ErrNone},
		{"the last word", func(h *api.Heap) { h.Words[40] = 2 }, api.ErrForm},
		{"Noted", func(h *api.Heap) { h.Noted = nil }, api.ErrState},
	} {
		h := copied(b.h)
		c.do(&h)
		b.says(c.what, h, nil, c.want)
		b.says(c.what, h, []int{-1}, c.want)
		b.says(c.what, h, make([]int, 1001), c.want)
		if n, e := young.Room(h, b.k); n != 0 || e != c.want {
			t.Errorf("%s: Room says %d, %d", c.what, n, e)
		}
	}
}
