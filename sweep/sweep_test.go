package sweep_test

import (
	"slices"
	"testing"

	"cinder/api"
	"cinder/fault"
	"cinder/link"
	"cinder/sweep"
	"cinder/things"
)

func classes(t *testing.T) api.Linked {
	t.Helper()
	k, e := link.Link([]api.Class{
		{Name: "Object"},
		{Name: "Error", Super: "Object", Fields: []api.Field{{Name: "code", Kind: api.Kind{Kind: api.KindInt}}}},
	})
	if e != api.OK {
		t.Fatalf("Link says %d", e)
	}
	return k
}

// task of a heap with a young row of one object, which leads to an old one, behind an old one that nobody leads to.
func task(t *testing.T) sweep.Task {
	t.Helper()
	h := api.Heap{
		Words: []int{0, 2, 1, 1, 11, 0, 0, 4, 1, 2, 6, 4, 1, 3, 7, 0, 0},
		Young: 6, Old: 10, YoungTop: 5, OldTop: 15, Next: 4,
	}
	x, f := fault.Made(func() sweep.Task { return sweep.Checked(h, classes(t), []int{1}) })
	if f.Err != api.OK {
		t.Fatalf("Checked gives up with %d", f.Err)
	}
	return x
}

// F1, G2: roots are where things are then.
func TestCollectingLeadsRoots(t *testing.T) {
	a := task(t)
	clear(a.Words[11:])
	a.OldTop, a.Words[4] = 11, 7 // so that there is room
	if n := a.Room(); n != 2 {
		t.Errorf("Room is %d", n)
	}
	a.CollectYoung()
	if a.OldTop != 15 || a.YoungTop != 1 || !slices.Equal(a.Roots, []int{11}) || !slices.Equal(a.Words, []int{0, 0, 0, 0, 0, 0, 0, 4, 1, 2, 6, 2, 1, 1, 7, 0, 0}) {
		t.Errorf("the young part is collected: %v", a)
	}
	b := task(t)
	if !b.CollectAll() || b.OldTop != 15 || !slices.Equal(b.Roots, []int{11}) || !slices.Equal(b.Words[7:], []int{4, 1, 3, 7, 2, 1, 1, 7, 0, 0}) {
		t.Errorf("all is collected: %v", b)
	}
}

// G2: if there is no room, nothing is changed.
func TestCollectAllLeavesWhatHasNoRoom(t *testing.T) {
	a := task(t)
	a.Roots = []int{1, 7, 11}
	was := slices.Clone(a.Words)
	if a.CollectAll() || a.Live() != 12 || !slices.Equal(a.Words, was) || !slices.Equal(a.Roots, []int{1, 7, 11}) || a.YoungTop != 5 || a.OldTop != 15 {
		t.Errorf("it is %v", a)
	}
}

// H3: a run may have more roots than a caller may hand in.
func TestTasksMayHaveManyRoots(t *testing.T) {
	a := task(t)
	a.Roots = slices.Repeat([]int{0, 11}, 2000)
	at, room := a.Space(api.TagInts, 3)
	if at != 1 || !room || len(a.Roots) != 4000 || a.Roots[3999] != 7 || a.Thing(7) != (things.Thing{At: 7, Tag: 4, Length: 1, Hash: 3}) {
		t.Errorf("at %d, %v: %v", at, room, a.Heap)
	}
}

// F2: Checked gives up with what is told first.
func TestCheckedGivesUp(t *testing.T) {
	a := task(t)
	for _, c := range []struct {
		young int
		roots []int
		want  api.Errno
	}{{6, []int{0, 7}, api.OK}, {6, []int{2}, api.ErrNone}, {6, slices.Repeat([]int{2}, 1001), api.ErrMany}, {2, []int{2}, api.ErrRange}} {
		h := a.Heap
		h.Young = c.young
		if f := fault.Caught(func() { sweep.Checked(h, a.Linked, c.roots) }); f.Err != c.want {
			t.Errorf("%d roots: %d, want %d", len(c.roots), f.Err, c.want)
		}
	}
}
