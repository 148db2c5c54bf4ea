package young_test

import (
	"math"
	"reflect"
	"slices"
	"testing"

	"cinder/api"
	"cinder/heap"
	"cinder/link"
	"cinder/young"
)

// seen of a thing: all that it has, with hashes instead of refs.
type seen struct {
	tag, hash int
	words     []int
}

// reached by refs, from an address on, by hashes.
func (b *bench) reached(h api.Heap, at int, all map[int]seen) {
	b.Helper()
	if at == 0 {
		return
	}
	tag, _, hash, e := heap.Tag(h, b.k, at)
	words, f := heap.Row(h, b.k, at)
	if e != api.OK || f != api.OK {
		b.Fatalf("%d of %v: %d, %d", at, h, e, f)
	}
	if _, ok := all[hash]; ok {
		return
	}
	all[hash] = seen{tag, hash, words}
	for n, to := range words {
		if isRef(tag, n) {
			b.reached(h, to, all)
			words[n] = b.hashOf(h, to)
		}
	}
}

func (b *bench) hashOf(h api.Heap, at int) int {
	if at == 0 {
		return 0
	}
	return h.Words[at+2]
}

// all things of a heap, by their addresses.
func (b *bench) all(h api.Heap) []int {
	var l []int
	for at := range h.Words {
		if _, _, _, e := heap.Tag(h, b.k, at); e == api.OK {
			l = append(l, at)
		}
	}
	return l
}

// inOrder tells which young things must go, in the order in which they must.
func (b *bench) inOrder(roots []int) []int {
	var l []int
	lead := func(at int) {
		if at >= 1 && at <= b.h.Young && !slices.Contains(l, at) {
			l = append(l, at)
		}
	}
	leadAll := func(at int) {
		words, _ := heap.Row(b.h, b.k, at)
		for n, to := range words {
			if isRef(b.h.Words[at], n) {
				lead(to)
			}
		}
	}
	for _, at := range roots {
		lead(at)
	}
	for _, at := range b.h.Noted {
		leadAll(at)
	}
	for i := 0; i < len(l); i++ {
		leadAll(l[i])
	}
	return l
}

// F1: the order, and where things are then.
func TestCollectMovesAsTold(t *testing.T) {
	d := draw(3)
	moved := 0
	for range 600 {
		b, roots := grown(t, &d)
		if n, _ := young.Room(b.h, b.k); n < 0 {
			continue
		}
		h, l := b.collect(roots...)
		at := b.h.OldTop
		now := map[int]int{}
		for _, was := range b.inOrder(roots) {
			now[was] = at
			if h.Words[at+2] != b.h.Words[was+2] {
				t.Fatalf("at %d must be what was at %d: %v, %v", at, was, b.h, h)
			}
			at += 3 + b.h.Words[was+1]
			moved++
		}
		if h.OldTop != at || h.YoungTop != 1 || len(h.Noted) != 0 || len(l) != len(roots) {
			t.Fatalf("%v, collected by %v, is %v, %v", b.h, roots, h, l)
		}
		for i, was := range roots {
			if to, ok := now[was]; ok && l[i] != to || !ok && l[i] != was {
				t.Fatalf("roots were %v, are %v, and things went %v", roots, l, now)
			}
		}
	}
	if moved < 700 {
		t.Errorf("just %d were moved", moved)
	}
}

// F3, and the whole: what is reached, and what was old, is as it was, with its hashes; nothing is young.
func TestReachedIsAsItWas(t *testing.T) {
	d := draw(4)
	gone := 0
	for range 300 {
		b, roots := grown(t, &d)
		if n, _ := young.Room(b.h, b.k); n < 0 {
			b.says("no room", b.h, roots, api.ErrFull)
			continue
		}
		from := slices.DeleteFunc(b.all(b.h), func(at int) bool { return at <= b.h.Young })
		h, l := b.collect(append(slices.Clone(roots), from...)...)
		was, is := map[int]seen{}, map[int]seen{}
		for i, at := range append(slices.Clone(roots), from...) {
			b.reached(b.h, at, was)
			b.reached(h, l[i], is)
			if b.hashOf(b.h, at) != b.hashOf(h, l[i]) {
				t.Fatalf("a root led to %d, leads to %d", b.hashOf(b.h, at), b.hashOf(h, l[i]))
			}
		}
		if !reflect.DeepEqual(was, is) {
			t.Fatalf("reached was %v, is %v", was, is)
		}
		all := b.all(h)
		if len(all) != len(is) || len(all) > 0 && all[0] <= h.Young || slices.ContainsFunc(h.Words[:h.Young+1], func(w int) bool { return w != 0 }) {
			t.Fatalf("there is more than is reached, or it is young: %v", h)
		}
		gone += len(b.all(b.h)) - len(all)
		if again, same2 := (&bench{t, b.k, h}).collect(l...); !same(again, h) || !slices.Equal(same2, l) {
			t.Fatalf("collected twice it is %v, %v; was %v, %v", again, same2, h, l)
		}
	}
	if gone < 300 {
		t.Errorf("just %d were gone", gone)
	}
}

// P1: none panics, whatever it is handed.
func TestCallsEndWhateverTheyAreHanded(t *testing.T) {
	d := draw(6)
	odd := []int{math.MinInt, -1, 0, 1, 2, 3, 20, 21, 30, 100, 500, 2001, math.MaxInt - 2, math.MaxInt}
	any := func() int { return odd[d.below(len(odd))] }
	for range 1000 {
		b, roots := grown(t, &d)
		h, k := b.h, b.k
		switch d.below(8) {
		case 0:
			h.Young, h.Old = any(), any()
		case 1:
			h.YoungTop = any()
		case 2:
			h.OldTop = any()
		case 3:
			h.Noted = append(h.Noted, any())
		case 4:
			h.Words = h.Words[:d.below(len(h.Words))]
		case 5:
			h.Words[d.below(len(h.Words))] = any()
		case 6:
			k.Fields = k.Fields[:d.below(4)]
		}
		roots = append(roots, any())
		want := heap.Check(h, k)
		_, e := young.Room(h, k)
		x, _, f := young.Collect(h, k, roots)
		if e != want || want != api.OK && f != want {
			t.Fatalf("Check says %d of %v, Room %d, Collect %d", want, h, e, f)
		}
		if f == api.OK && heap.Check(x, k) != api.OK {
			t.Fatalf("Collect of %v is %v", h, x)
		}
	}
	young.Collect(api.Heap{}, api.Linked{}, nil)
	young.Room(api.Heap{}, api.Linked{})
}

// spare is a list with room behind it, and something in it.
func spare(l []int) []int {
	return append(slices.Grow(slices.Clone(l), 9), 7, 7, 7, 7)[:len(l)]
}

func behind(l []int) []int { return slices.Clone(l[:len(l)+4]) }

// spoil all of a list, with the room behind it.
func spoil(l []int) {
	l = l[:cap(l)]
	for i := range l {
		l[i] = 99
	}
}

// chain has a young node to which a root and a Noted thing lead.
func chain(t *testing.T) (*bench, []int) {
	b := newBench(t, 20, 30)
	at, old, other := b.make(node, 2, false), b.make(node, 2, true), b.make(api.TagObjects, 1, true)
	b.set(old, 1, at)
	b.set(at, 1, other)
	b.set(other, 0, at)
	return b, []int{at, old, 0}
}

// P2: what is handed in is as it was, the spare room behind its lists too.
func TestHandedInIsOnlyRead(t *testing.T) {
	b, roots := chain(t)
	h := b.h
	h.Words, h.Noted, roots = spare(h.Words), spare(h.Noted), spare(roots)
	words, notes, was := behind(h.Words), behind(h.Noted), behind(roots)
	if _, e := young.Room(h, b.k); e != api.OK {
		t.Fatalf("Room says %d", e)
	}
	if _, _, e := young.Collect(h, b.k, roots); e != api.OK {
		t.Fatalf("Collect says %d", e)
	}
	young.Collect(h, b.k, append(slices.Clone(roots), -1))
	if !slices.Equal(behind(h.Words), words) || !slices.Equal(behind(h.Noted), notes) || !slices.Equal(behind(roots), was) {
		t.Errorf("it is %v, roots %v; was %v, %v, %v", h, roots, words, notes, was)
	}
	if again, _ := link.Link(b.k.Classes); !reflect.DeepEqual(again, b.k) {
		t.Errorf("the classes are %v now", b.k)
	}
}

// P2, P3: answers are new memory, share none, and are the same each time.
func TestAnswersAreNewMemory(t *testing.T) {
	b, roots := chain(t)
	was, rootsWere := copied(b.h), slices.Clone(roots)
	want, wantRoots := b.collect(roots...)
	h, l, _ := young.Collect(b.h, b.k, roots)
	spoil(h.Words)
	spoil(h.Noted)
	if !slices.Equal(l, wantRoots) {
		t.Errorf("roots share the heap's memory: %v", l)
	}
	h, l, _ = young.Collect(b.h, b.k, roots)
	spoil(l)
	if !same(h, want) {
		t.Errorf("the heap shares the roots' memory: %v", h)
	}
	if !same(b.h, was) || !slices.Equal(roots, rootsWere) {
		t.Errorf("an answer shares what was handed in: %v, %v", b.h, roots)
	}
	h, l, _ = young.Collect(b.h, b.k, roots)
	spoil(b.h.Words)
	spoil(b.h.Noted)
	spoil(roots)
	if !same(h, want) || !slices.Equal(l, wantRoots) {
		t.Errorf("a later change is seen: %v, %v", h, l)
	}
}
