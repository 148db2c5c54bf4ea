package full_test

import (
	"math"
	"slices"
	"testing"

	"cinder/api"
	"cinder/full"
)

// G1, G3: the document's seventh example.
func TestExample(t *testing.T) {
	b := newBench(t, 20, 20)
	h, roots, at, ok := b.space(nil, api.TagInts, 5)
	if at != 1 || !ok || len(roots) != 0 || h.YoungTop != 9 {
		t.Errorf("it is made at %d, %v: %v, %v", at, ok, h, roots)
	}
	b.h = h
	if n := b.live(at); n != 8 {
		t.Errorf("%d words are live", n)
	}
}

// web has things of both parts that lead to each other, and some that nobody leads to.
//
//	young: 1 ints(2), 6 node, 11 leaf, 18 top (gone), 21 objects(2)
//	old: 41 node (gone), 46 objects(3), 52 ints(1), 56 node, 61 failure, 65 node (gone)
func web(t *testing.T) *bench {
	t.Helper()
	b := newBench(t, 40, 60)
	ints, first, most, _, row := b.make(api.TagInts, 2, false), b.make(node, 2, false), b.make(leaf, 4, false), b.make(top, 0, false), b.make(api.TagObjects, 2, false)
	gone, objects, number, other, code, last := b.make(node, 2, true), b.make(api.TagObjects, 3, true), b.make(api.TagInts, 1, true), b.make(node, 2, true), b.make(failure, 1, true), b.make(node, 2, true)
	b.set(ints, 0, row)
	b.set(ints, 1, 41)
	b.set(first, 0, 6)
	b.set(first, 1, objects)
	b.set(objects, 0, number)
	b.set(objects, 2, row)
	b.set(row, 0, first)
	b.set(row, 1, ints)
	b.set(number, 0, 7)
	b.set(gone, 1, most) // it is Noted, and leads to what nobody else leads to
	b.set(most, 1, gone)
	b.set(other, 1, other)
	b.set(code, 0, 9)
	b.set(last, 1, last)
	return b
}

// G1: words of all things that are reached, each once, however far, with their heads.
func TestLiveCountsWhatIsReached(t *testing.T) {
	b := web(t)
	all := 5 + 5 + 5 + 6 + 4
	for _, c := range []struct {
		roots []int
		want  int
	}{
		{nil, 0}, {[]int{0}, 0}, {[]int{6}, all}, {[]int{46}, all}, {[]int{21, 0, 6}, all}, {[]int{6, 6}, all}, {[]int{56}, 5},
		{[]int{1}, 5}, {[]int{52}, 4}, {[]int{18}, 3}, {[]int{41}, 12}, {[]int{11}, 12}, {[]int{6, 61, 56}, all + 9}, {[]int{65, 41, 11, 18, 61, 56, 6}, all + 29},
	} {
		if n := b.live(c.roots...); n != c.want {
			t.Errorf("by %v %d words are live, want %d", c.roots, n, c.want)
		}
	}
}

// G1, G2: a line of things as long as a heap may have.
func TestReachedHoweverFar(t *testing.T) {
	b := newBench(t, api.MaxPart, api.MaxPart)
	at := 0
	for n := range 400 {
		next := b.make(node, 2, n >= 200)
		b.set(next, 0, n)
		b.set(next, 1, at)
		at = next
	}
	if n := b.live(at); n != 2000 {
		t.Errorf("%d words are live", n)
	}
	h, roots := b.collect(at)
	at = roots[0]
	for n := range 400 {
		if h.Words[at] != node || h.Words[at+3] != 399-n {
			t.Fatalf("the line breaks at %d", 399-n)
		}
		at = h.Words[at+4]
	}
	if at != 0 || h.OldTop != 4001 {
		t.Errorf("the line ends at %d, and OldTop is %d", at, h.OldTop)
	}
}

// G2: word by word: old ones first, then young ones, by their addresses, whatever roots' order is.
func TestCollectPushesTogether(t *testing.T) {
	b := web(t)
	want := slices.Concat(make([]int, 41), []int{
		api.TagObjects, 3, 7, 47, 0, 65, // 41
		api.TagInts, 1, 8, 7, // 47
		failure, 1, 10, 9, // 51
		api.TagInts, 2, 1, 21, 41, // 55: numbers, no refs
		node, 2, 2, 6, 41, // 60: a number, and a ref
		api.TagObjects, 2, 5, 60, 55, // 65
	}, make([]int, 31))
	for _, c := range []struct{ roots, want []int }{
		{[]int{21, 0, 61, 6, 21}, []int{65, 0, 51, 60, 65}},
		{[]int{61, 6}, []int{51, 60}},
		{[]int{52, 46, 61}, []int{47, 41, 51}},
	} {
		h, roots := b.collect(c.roots...)
		if !slices.Equal(roots, c.want) {
			t.Errorf("roots %v are %v, want %v", c.roots, roots, c.want)
		}
		if !slices.Equal(h.Words, want) {
			t.Errorf("words are\n%v, want\n%v", h.Words, want)
		}
		if h.YoungTop != 1 || h.OldTop != 70 || len(h.Noted) != 0 || h.Next != b.h.Next || h.Young != 40 || h.Old != 60 {
			t.Errorf("it is %v", h)
		}
	}
}

// G2: what is Noted, but not reached, is gone, with all that it alone leads to.
func TestNotedThingsDoNotLead(t *testing.T) {
	b := web(t)
	if !slices.Contains(b.h.Noted, 41) {
		t.Fatalf("Noted is %v", b.h.Noted)
	}
	if h, _ := b.collect(56); h.OldTop != 46 {
		t.Errorf("it is %v", h)
	}
	h, roots := b.collect()
	empty := newBench(t, 40, 60).h
	empty.Next = b.h.Next
	if !same(h, empty) || len(roots) != 0 {
		t.Errorf("without roots it is %v, %v", h, roots)
	}
	if h, roots := b.collect(0, 0); !same(h, empty) || !slices.Equal(roots, []int{0, 0}) {
		t.Errorf("by null it is %v, %v", h, roots)
	}
}

// G2: ErrFull, if Live is more than Old, and just then.
func TestCollectTellsNoRoom(t *testing.T) {
	for _, c := range []struct {
		youngWords, oldWords int
		want                 api.Errno
	}{{20, 0, api.OK}, {21, 0, api.ErrFull}, {17, 3, api.OK}, {17, 4, api.ErrFull}, {0, 20, api.OK}, {30, 20, api.ErrFull}} {
		b := newBench(t, 30, 20)
		var roots []int
		for _, old := range []bool{false, true} {
			if n := map[bool]int{false: c.youngWords, true: c.oldWords}[old]; n > 0 {
				roots = append(roots, b.make(api.TagInts, n-3, old))
			}
		}
		b.say("all are live", b.h, roots, api.OK, c.want, api.OK)
		b.say("none is live", b.h, nil, api.OK, api.OK, api.OK)
	}
}

// G2, G3: roots that may not be, ahead of what else is wrong.
func TestCallsTellRoots(t *testing.T) {
	for _, room := range []bool{true, false} {
		b := newBench(t, 30, 5)
		at := b.make(node, 2, false)
		old := b.make(node, 2, true)
		full := api.OK
		if !room {
			full = api.ErrFull
		} else {
			at = 0
		}
		many := make([]int, 1000)
		many[998], many[999] = old, at
		b.say("1000 roots", b.h, many, api.OK, full, api.OK)
		b.say("1001 roots", b.h, append(many, 0), api.ErrMany, api.ErrMany, api.ErrMany)
		b.say("1001 roots that are none", b.h, slices.Repeat([]int{-1}, 1001), api.ErrMany, api.ErrMany, api.ErrMany)
		for _, no := range []int{-1, 2, 6, 30, old + 3, b.h.OldTop, math.MinInt, math.MaxInt} {
			b.say("no address", b.h, []int{at, old, no, 0}, api.ErrNone, api.ErrNone, api.ErrNone)
		}
	}
}

// G1 to G3: what Check of chapter 5 says is told ahead of all.
func TestCallsTellCheckFirst(t *testing.T) {
	b := newBench(t, 20, 20)
	at, old := b.make(node, 2, false), b.make(node, 2, true)
	b.set(old, 1, at)
	for _, c := range []struct {
		what string
		do   func(h *api.Heap)
		want api.Errno
	}{
		{"Young", func(h *api.Heap) { h.Young = 2 }, api.ErrRange},
		{"no words", func(h *api.Heap) { h.Words = nil }, api.ErrForm},
		{"YoungTop", func(h *api.Heap) { h.YoungTop = 7 }, api.ErrForm},
		{"Next", func(h *api.Heap) { h.Next = 2 }, api.ErrRange},
		{"a hash", func(h *api.Heap) { h.Words[at+2] = 2 }, api.ErrTwice},
		{"a ref", func(h *api.Heap) { h.Words[at+4] = 2 }, api.ErrNone},
		{"the last word", func(h *api.Heap) { h.Words[40] = 2 }, api.ErrForm},
		{"Noted", func(h *api.Heap) { h.Noted = nil }, api.ErrState},
	} {
		h := copied(b.h)
		c.do(&h)
		b.say(c.what, h, nil, c.want, c.want, c.want)
		b.say(c.what, h, []int{-1}, c.want, c.want, c.want)
		b.say(c.what, h, make([]int, 1001), c.want, c.want, c.want)
		if _, _, _, _, e := full.Space(h, b.k, nil, 0, -1); e != c.want {
			t.Errorf("%s: Space says %d", c.what, e)
		}
	}
	b.k.Targets = nil
	b.say("not linked", b.h, []int{-1}, api.ErrState, api.ErrState, api.ErrState)
}
