package things_test

import (
	"slices"
	"testing"

	"cinder/api"
	"cinder/things"
)

var (
	number = api.Kind{Kind: api.KindInt}
	object = api.Kind{Kind: api.KindObject, Class: "Mixed"}
)

// mixed has one class, with a number between refs.
func mixed() api.Linked {
	fields := []api.Field{{Name: "a", Kind: object}, {Name: "b", Kind: number}, {Name: "c", Kind: api.Kind{Kind: api.KindInts}}}
	return api.Linked{Classes: []api.Class{{Name: "Mixed", Fields: fields}}, Fields: [][]api.Field{fields}}
}

// heap has a young row of two, and an old object and a row of one object.
func heap() api.Heap {
	return api.Heap{
		Words: []int{0, 1, 2, 1, 21, 22, 3, 3, 2, 6, 7, 0, 2, 1, 3, 1, 0, 0, 0},
		Young: 5, Old: 13, YoungTop: 6, OldTop: 16, Noted: []int{12}, Next: 4,
	}
}

func found(t *testing.T) *things.Chart {
	t.Helper()
	c, ok := things.Find(heap(), mixed())
	if !ok {
		t.Fatal("they do not end at the tops")
	}
	return c
}

// E2: where things are, by their addresses alone.
func TestFindTellsWhereThingsAre(t *testing.T) {
	c := found(t)
	want := []things.Thing{{At: 1, Tag: 1, Length: 2, Hash: 1}, {At: 6, Tag: 3, Length: 3, Hash: 2}, {At: 12, Tag: 2, Length: 1, Hash: 3}}
	if !slices.Equal(c.All, want) {
		t.Errorf("they are %v", c.All)
	}
	n := 0
	for at := range c.Words {
		x, ok := c.At(at)
		if !ok {
			continue
		}
		if x != want[n] {
			t.Errorf("at %d is %v", at, x)
		}
		n++
	}
	if n != len(want) {
		t.Errorf("%d addresses", n)
	}
	if c.All[2].End() != 16 || c.All[1].Word(2) != 11 {
		t.Errorf("ends at %d, word at %d", c.All[2].End(), c.All[1].Word(2))
	}
}

// E3: things that do not end just at the tops.
func TestFindTellsWrongEnds(t *testing.T) {
	for at, value := range map[int]int{1: 0, 2: 3, 6: 4, 7: 2, 12: -1, 13: 2} {
		h := heap()
		h.Words[at] = value
		if _, ok := things.Find(h, mixed()); ok {
			t.Errorf("%d at %d is found", value, at)
		}
	}
}

// E2: which words are refs.
func TestRefsAreByTags(t *testing.T) {
	c := found(t)
	for i, want := range [][]int{nil, {9, 11}, {15}} {
		if l := c.Refs(c.All[i]); !slices.Equal(l, want) {
			t.Errorf("refs of %v are at %v", c.All[i], l)
		}
	}
	for i, want := range []bool{false, false, true} {
		if is := c.HasRef(c.All[i], func(ref int) bool { return ref == 1 }); is != want {
			t.Errorf("a ref of %v is 1: %v", c.All[i], is)
		}
	}
	if !c.HasRef(c.All[1], func(ref int) bool { return ref == 6 }) {
		t.Error("a ref of the object is not found")
	}
}

// E2: addresses of both parts, and null.
func TestPartsAreByAddresses(t *testing.T) {
	c := found(t)
	for _, x := range []struct {
		at               int
		young, old, lead bool
	}{{0, false, false, true}, {1, true, false, true}, {5, true, false, false}, {6, false, true, true}, {16, false, true, false}} {
		if c.IsYoung(x.at) != x.young || c.IsOld(x.at) != x.old || c.MayLead(x.at) != x.lead {
			t.Errorf("%d: young %v, old %v, leads %v", x.at, c.IsYoung(x.at), c.IsOld(x.at), c.MayLead(x.at))
		}
	}
}

// P2: what is done to a copy is not seen.
func TestOwnSharesNothing(t *testing.T) {
	h := heap()
	g := things.Own(h, mixed())
	g.Set(g.Thing(12), 0, 6)
	g.Words[4], g.Noted[0] = 99, 99
	if h.Words[4] != 21 || h.Words[15] != 1 || h.Noted[0] != 12 {
		t.Errorf("it is %v now", h)
	}
}

// E4: a thing is made at a part's top, if there is room.
func TestMakeLaysThings(t *testing.T) {
	g := things.Own(heap(), mixed())
	for length, want := range []bool{true, false} {
		if g.HasRoom(length, true) != want || g.HasRoom(length, false) {
			t.Errorf("room for %d: old %v, young %v", length, g.HasRoom(length, true), g.HasRoom(length, false))
		}
	}
	at := g.Make(api.TagObjects, 0, true)
	if want := (things.Thing{At: 16, Tag: api.TagObjects, Hash: 4}); at != 16 || g.Thing(at) != want || g.OldTop != 19 || g.Next != 5 || g.YoungTop != 6 {
		t.Errorf("it is %v at %d", g, at)
	}
	if n := g.Thing(6).Size(); n != 6 {
		t.Errorf("it has %d words", n)
	}
}

// E5: an old thing that is given a young one as a ref is Noted, in its place, once.
func TestSetNotes(t *testing.T) {
	g := things.Own(heap(), mixed())
	for _, x := range []struct {
		at, n, value int
		want         []int
	}{{6, 1, 1, []int{12}}, {6, 0, 12, []int{12}}, {1, 0, 1, []int{12}}, {6, 2, 1, []int{6, 12}}, {6, 0, 1, []int{6, 12}}, {12, 0, 0, []int{6, 12}}} {
		g.Set(g.Thing(x.at), x.n, x.value)
		if g.Words[x.at+3+x.n] != x.value || !slices.Equal(g.Noted, x.want) {
			t.Errorf("word %d of %d is set to %d: %v", x.n, x.at, x.value, g.Heap)
		}
	}
}
