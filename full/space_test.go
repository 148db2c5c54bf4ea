package full_test

import (
	"math"
	"slices"
	"testing"

	"cinder/api"
	"cinder/full"
)

// G3: errors of Make, behind those of roots; that there is no room is none.
func TestSpaceTellsErrors(t *testing.T) {
	b := newBench(t, 20, 20)
	b.make(top, 0, false)
	for _, c := range []struct {
		roots       []int
		tag, length int
		want        api.Errno
	}{
		{nil, 0, 1, api.ErrKind}, {nil, -1, 1, api.ErrKind}, {nil, noClass, 0, api.ErrKind}, {nil, math.MaxInt, 0, api.ErrKind}, {nil, math.MinInt, -1, api.ErrKind},
		{nil, api.TagInts, -1, api.ErrRange}, {nil, api.TagObjects, api.MaxRow + 1, api.ErrRange}, {nil, api.TagInts, math.MaxInt, api.ErrRange}, {nil, api.TagObjects, math.MinInt, api.ErrRange},
		{nil, node, 1, api.ErrRange}, {nil, node, 3, api.ErrRange}, {nil, top, 1, api.ErrRange},
		{[]int{2}, 0, 1, api.ErrNone}, {[]int{2}, node, 1, api.ErrNone}, {make([]int, 1001), 0, 1, api.ErrMany},
		{nil, api.TagInts, api.MaxRow, api.OK}, {nil, node, 2, api.OK}, {nil, top, 0, api.OK}, {nil, api.TagObjects, 0, api.OK},
	} {
		h, l, at, ok, e := full.Space(b.h, b.k, c.roots, c.tag, c.length)
		if e != c.want {
			t.Errorf("Space(%v, %d, %d) says %d, want %d", c.roots, c.tag, c.length, e, c.want)
		}
		if e != api.OK && (len(l) != 0 || at != 0 || ok || !same(h, api.Heap{})) {
			t.Errorf("Space(%v, %d, %d) says %v, %v, %d, %v beside an error", c.roots, c.tag, c.length, h, l, at, ok)
		}
	}
}

// spacing is a heap with live and dead words in each part, a row that is wished for, and what comes of it.
type spacing struct {
	what                 string
	youngLive, youngDead int
	oldLive, oldDead     int
	words                int // of the row, with its head
	at                   int // 0: there is no room
	youngTop, oldTop     int
	young, old, dead     int // where the live ones are, and the old dead one, if it is there yet
}

// G3: of a heap with 20 young words and 40 old ones: each way that it may go, at its edges.
func TestSpaceGoesEachWay(t *testing.T) {
	for _, c := range []spacing{
		{"the young part is empty", 0, 0, 0, 0, 20, 1, 21, 21, 0, 0, 0},
		{"it just fits into the young part", 6, 6, 10, 10, 8, 13, 21, 41, 1, 21, 31},
		{"it does not: the live one goes", 6, 6, 10, 10, 9, 1, 10, 47, 41, 21, 31},
		{"it fits into the young part then, just so", 6, 6, 10, 10, 20, 1, 21, 47, 41, 21, 31},
		{"it does not, but into the old one, just so", 6, 6, 10, 3, 21, 40, 1, 61, 34, 21, 31},
		{"nor there: all is collected", 6, 6, 10, 4, 21, 37, 1, 58, 31, 21, 0},
		{"it just fits into the old one then", 6, 6, 10, 4, 24, 37, 1, 61, 31, 21, 0},
		{"it does not fit there, either", 6, 6, 10, 4, 25, 0, 1, 37, 31, 21, 0},
		{"Room is 0: the young part alone is collected", 6, 6, 14, 14, 9, 1, 10, 55, 49, 21, 35},
		{"Room is below 0: all is collected", 6, 6, 14, 15, 9, 1, 10, 41, 35, 21, 0},
		{"Room is below 0, nothing is live", 0, 20, 0, 40, 20, 1, 21, 21, 0, 0, 0},
		{"Room is below 0, and it is too great for all", 6, 6, 14, 15, 21, 0, 1, 41, 35, 21, 0},
		{"Room is below 0, and it just fits into the old part", 6, 6, 10, 19, 24, 37, 1, 61, 31, 21, 0},
		{"Room is below 0, and it does not", 6, 6, 10, 19, 25, 0, 1, 37, 31, 21, 0},
		{"Live is Old", 20, 0, 20, 20, 3, 1, 4, 61, 41, 21, 0},
		{"Live is Old, and it is too great for the young part", 20, 0, 20, 20, 21, 0, 1, 61, 41, 21, 0},
		{"Live is more than Old, the old part is full", 20, 0, 21, 19, 3, 0, 21, 61, 1, 21, 42},
		{"Live is more than Old, the old part has room", 20, 0, 21, 16, 3, 58, 21, 61, 1, 21, 42},
		{"Live is more than Old, the old part has too little", 20, 0, 21, 16, 4, 0, 21, 58, 1, 21, 42},
	} {
		c.try(t)
	}
}

func (c spacing) try(t *testing.T) {
	t.Helper()
	b := newBench(t, 20, 40)
	roots := []int{0, 0}
	if c.youngLive > 0 {
		roots[0] = b.make(api.TagInts, c.youngLive-3, false)
	}
	b.fill(c.youngDead, false)
	if c.oldLive > 0 {
		roots[1] = b.make(api.TagInts, c.oldLive-3, true)
	}
	dead := b.h.OldTop
	b.fill(c.oldDead, true)
	was := b.h
	h, l, at, ok := b.space(roots, api.TagInts, c.words-3)
	if at != c.at || ok != (c.at != 0) || h.YoungTop != c.youngTop || h.OldTop != c.oldTop || !slices.Equal(l, []int{c.young, c.old}) {
		t.Errorf("%s: at %d, %v, roots %v, of %v", c.what, at, ok, l, h)
	}
	if there := c.oldDead > 0 && h.Words[dead] != 0 && h.Words[dead+2] == was.Words[dead+2]; there != (c.dead == dead) {
		t.Errorf("%s: that the dead one is there yet is %v: %v", c.what, there, h)
	}
	next := was.Next
	if ok {
		next++
		if got := h.Words[at : at+3]; !slices.Equal(got, []int{api.TagInts, c.words - 3, was.Next}) {
			t.Errorf("%s: it is %v", c.what, got)
		}
	}
	if h.Next != next {
		t.Errorf("%s: Next is %d, was %d", c.what, h.Next, was.Next)
	}
}
