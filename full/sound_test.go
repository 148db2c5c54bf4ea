package full_test

import (
	"math"
	"reflect"
	"slices"
	"testing"

	"cinder/api"
	"cinder/full"
	"cinder/heap"
	"cinder/link"
	"cinder/young"
)

// seen of a thing: all that it has, with hashes instead of refs.
type seen struct {
	tag   int
	words []int
}

// look at all that roots lead to, by hashes; and the roots' own.
func (b *bench) look(h api.Heap, roots []int) (map[int]seen, []int) {
	b.Helper()
	all := map[int]seen{}
	var own []int
	for _, at := range roots {
		b.lookAt(h, at, all)
		own = append(own, hashOf(h, at))
	}
	return all, own
}

func (b *bench) lookAt(h api.Heap, at int, all map[int]seen) {
	b.Helper()
	if at == 0 {
		return
	}
	tag, _, hash, e := heap.Tag(h, b.k, at)
	words, f := heap.Row(h, b.k, at)
	if e != api.OK || f != api.OK {
		b.Fatalf("%d of %v: %d, %d", at, h, e, f)
	}
	if _, ok := all[hash]; ok {
		return
	}
	all[hash] = seen{tag, words}
	for n, to := range words {
		if isRef(tag, n) {
			b.lookAt(h, to, all)
			words[n] = hashOf(h, to)
		}
	}
}

func hashOf(h api.Heap, at int) int {
	if at == 0 {
		return 0
	}
	return h.Words[at+2]
}

// hashes of all things of a heap that is right, from the lowest address of each part on.
func hashes(h api.Heap, from, top int) []int {
	var l []int
	for at := from; at < top; at += 3 + h.Words[at+1] {
		l = append(l, h.Words[at+2])
	}
	return l
}

func (b *bench) mustLookTheSame(h api.Heap, roots []int, x api.Heap, l []int) {
	b.Helper()
	was, of := b.look(h, roots)
	is, to := b.look(x, l)
	if !reflect.DeepEqual(was, is) || !slices.Equal(of, to) {
		b.Fatalf("reached was %v by %v, and is %v by %v", was, of, is, to)
	}
}

// G1, G2, and the whole: what is reached is as it was, with its hashes, in its order, and nothing else is there.
func TestReachedIsAsItWas(t *testing.T) {
	d := draw(11)
	gone, moved, none := 0, 0, 0
	for range 800 {
		b, roots := grown(t, &d)
		was, _ := b.look(b.h, roots)
		live := 0
		for _, x := range was {
			live += 3 + len(x.words)
		}
		if n := b.live(roots...); n != live {
			t.Fatalf("%d words are live, and Live says %d", live, n)
		}
		if live > b.h.Old {
			b.say("no room", b.h, roots, api.OK, api.ErrFull, api.OK)
			none++
			continue
		}
		h, l := b.collect(roots...)
		b.mustLookTheSame(b.h, roots, h, l)
		dead := func(hash int) bool { _, ok := was[hash]; return !ok }
		all := append(hashes(b.h, b.h.Young+1, b.h.OldTop), hashes(b.h, 1, b.h.YoungTop)...)
		want := slices.DeleteFunc(slices.Clone(all), dead)
		if got := hashes(h, h.Young+1, h.OldTop); !slices.Equal(got, want) || h.YoungTop != 1 || h.OldTop != h.Young+1+live || h.Next != b.h.Next {
			t.Fatalf("%v, collected by %v, is %v: want %v", b.h, roots, h, want)
		}
		gone, moved = gone+len(all)-len(want), moved+len(want)
	}
	if gone < 500 || moved < 500 || none < 20 {
		t.Errorf("just %d were gone, %d stayed, %d had no room", gone, moved, none)
	}
}

// G4: collected twice is collected once; and with the young part first there are the same things.
func TestCollectedTwiceIsCollectedOnce(t *testing.T) {
	d := draw(12)
	done := 0
	for range 400 {
		b, roots := grown(t, &d)
		h, l, e := full.Collect(b.h, b.k, roots)
		if e != api.OK {
			continue
		}
		again := &bench{t, b.k, h}
		if x, m := again.collect(l...); !same(x, h) || !slices.Equal(m, l) {
			t.Fatalf("collected twice it is %v, %v; was %v, %v", x, m, h, l)
		}
		x, m, e := young.Collect(b.h, b.k, roots)
		if e != api.OK {
			continue
		}
		first := &bench{t, b.k, x}
		y, o := first.collect(m...)
		b.mustLookTheSame(h, l, y, o)
		if a, c := hashes(h, h.Young+1, h.OldTop), hashes(y, y.Young+1, y.OldTop); len(a) != len(c) || h.OldTop != y.OldTop {
			t.Fatalf("there are %v, and %v, if the young part goes first", a, c)
		}
		done++
	}
	if done < 150 {
		t.Errorf("just %d were collected by parts", done)
	}
}

// G3, G4, and the whole: there is no room only if what is live, and the thing, are more than Old; and what is reached is as it was.
func TestNoRoomOnlyIfThereIsNone(t *testing.T) {
	d := draw(13)
	made, none, tight := 0, 0, 0
	for range 1500 {
		b, roots := grown(t, &d)
		tag, length := d.tagAndLength(70)
		live := b.live(roots...)
		h, l, at, ok := b.space(roots, tag, length)
		b.mustLookTheSame(b.h, roots, h, l)
		switch {
		case !ok:
			none++
			if live+3+length <= b.h.Old || at != 0 || h.Next != b.h.Next {
				t.Fatalf("%d are live, %d wished for, and there is no room in %v", live, 3+length, b.h)
			}
		default:
			made++
			words, _ := heap.Row(h, b.k, at)
			if got, n, hash, _ := heap.Tag(h, b.k, at); got != tag || n != length || hash != b.h.Next || slices.ContainsFunc(words, func(w int) bool { return w != 0 }) {
				t.Fatalf("it is %d, %d, %d, %v", got, n, hash, words)
			}
			if h.Young+h.Old-(h.YoungTop-1)-(h.OldTop-h.Young-1) < 3 {
				tight++
			}
		}
	}
	if made < 300 || none < 100 || tight < 5 {
		t.Errorf("just %d were made, %d had no room, %d left none", made, none, tight)
	}
}

// The whole: things that are made, led to each other, dropped and collected, however, are as a list tells that knows no heap.
func TestThingsLastHoweverTheyAreCollected(t *testing.T) {
	d := draw(14)
	ways := map[int]int{}
	for range 40 {
		b := newBench(t, 20+d.below(40), 60+d.below(60))
		know := map[int]seen{} // by hashes
		roots := make([]int, 5)
		for range 120 {
			n := d.below(len(roots))
			way := d.below(6)
			switch way {
			case 0:
				if h, l, e := young.Collect(b.h, b.k, roots); e == api.OK {
					b.h, roots = h, l
				}
			case 1:
				if h, l, e := full.Collect(b.h, b.k, roots); e == api.OK {
					b.h, roots = h, l
				}
			case 2:
				roots[n] = 0
			case 3:
				if tag, length, hash, e := heap.Tag(b.h, b.k, roots[n]); e == api.OK && length > 0 {
					at, to := d.below(length), roots[d.below(len(roots))]
					b.set(roots[n], at, to)
					if isRef(tag, at) {
						to = hashOf(b.h, to)
					}
					know[hash].words[at] = to
				}
			default:
				tag, length := d.tagAndLength(6)
				h, l, at, ok := b.space(roots, tag, length)
				b.h, roots = h, l
				if ok {
					roots[n] = at
					know[h.Next-1] = seen{tag, make([]int, length)}
				}
			}
			ways[way]++
			b.mustKnow(roots, know)
		}
	}
	if len(ways) != 6 {
		t.Errorf("ways were %v", ways)
	}
}

// mustKnow holds all that is reached against what is known. Numbers of words that are no refs may have been addresses: they stay.
func (b *bench) mustKnow(roots []int, know map[int]seen) {
	b.Helper()
	all, _ := b.look(b.h, roots)
	for hash, x := range all {
		if want := know[hash]; want.tag != x.tag || !slices.Equal(want.words, x.words) {
			b.Fatalf("%d is %v, want %v", hash, x, want)
		}
	}
}

// P1: none panics, whatever it is handed; what comes of a heap that is right is right.
func TestCallsEndWhateverTheyAreHanded(t *testing.T) {
	d := draw(15)
	odd := []int{math.MinInt, -1, 0, 1, 2, 3, 4, 5, 6, 20, 21, 30, 100, 500, 501, 2001, math.MaxInt - 2, math.MaxInt}
	any := func() int { return odd[d.below(len(odd))] }
	right := 0
	for range 3000 {
		b, roots := grown(t, &d)
		h, k := b.h, b.k
		switch d.below(12) {
		case 0:
			h.Young, h.Old = any(), any()
		case 1:
			h.YoungTop = any()
		case 2:
			h.OldTop = any()
		case 3:
			h.Noted = append(h.Noted, any())
		case 4:
			h.Words = h.Words[:d.below(len(h.Words))]
		case 5:
			h.Words[d.below(len(h.Words))] = any()
		case 6:
			k.Fields = k.Fields[:d.below(4)]
		case 7:
			h.Next = any()
		case 8:
			roots = append(roots, any())
		}
		want := heap.Check(h, k)
		_, e := full.Live(h, k, roots)
		x, _, f := full.Collect(h, k, roots)
		y, _, _, _, g := full.Space(h, k, roots, []int{any(), api.TagInts, api.TagObjects, top}[d.below(4)], any())
		if want != api.OK && (e != want || f != want || g != want) {
			t.Fatalf("Check says %d of %v; Live %d, Collect %d, Space %d", want, h, e, f, g)
		}
		if h.Next >= 1<<62 {
			continue
		}
		if f == api.OK && heap.Check(x, k) != api.OK || g == api.OK && heap.Check(y, k) != api.OK {
			t.Fatalf("%v becomes %v, or %v", h, x, y)
		}
		if g == api.OK {
			right++
		}
	}
	full.Live(api.Heap{}, api.Linked{}, nil)
	full.Collect(api.Heap{}, api.Linked{}, nil)
	full.Space(api.Heap{}, api.Linked{}, nil, 0, 0)
	if right < 100 {
		t.Errorf("just %d were right", right)
	}
}

// spare is a list with room behind it, and something in it.
func spare(l []int) []int {
	return append(slices.Grow(slices.Clone(l), 9), 7, 7, 7, 7)[:len(l)]
}

func behind(l []int) []int { return slices.Clone(l[:len(l)+4]) }

// spoil all of a list, with the room behind it.
func spoil(l []int) {
	l = l[:cap(l)]
	for i := range l {
		l[i] = 99
	}
}

// chain has a young node to which a root and a Noted thing lead.
func chain(t *testing.T) (*bench, []int) {
	b := newBench(t, 20, 30)
	at, old, other := b.make(node, 2, false), b.make(node, 2, true), b.make(api.TagObjects, 1, true)
	b.set(old, 1, at)
	b.set(at, 1, other)
	b.set(other, 0, at)
	return b, []int{at, old, 0}
}

// call is one way to have a heap and roots: all that Collect and Space may come to.
type call func(h api.Heap, k api.Linked, roots []int) (api.Heap, []int)

func calls() []call {
	space := func(length int) call {
		return func(h api.Heap, k api.Linked, roots []int) (api.Heap, []int) {
			x, l, _, _, _ := full.Space(h, k, roots, api.TagInts, length)
			return x, l
		}
	}
	collect := func(h api.Heap, k api.Linked, roots []int) (api.Heap, []int) {
		x, l, _ := full.Collect(h, k, roots)
		return x, l
	}
	return []call{collect, space(1), space(15), space(18), space(25)}
}

// P2: what is handed in is as it was, the spare room behind its lists too.
func TestHandedInIsOnlyRead(t *testing.T) {
	b, roots := chain(t)
	h := b.h
	h.Words, h.Noted, roots = spare(h.Words), spare(h.Noted), spare(roots)
	words, notes, was := behind(h.Words), behind(h.Noted), behind(roots)
	for _, do := range calls() {
		if x, l := do(h, b.k, roots); len(x.Words) == 0 || len(l) != 3 {
			t.Errorf("it is %v, %v", x, l)
		}
	}
	if n, e := full.Live(h, b.k, roots); n != 14 || e != api.OK {
		t.Errorf("Live says %d, %d", n, e)
	}
	full.Collect(h, b.k, append(slices.Clone(roots), -1))
	if !slices.Equal(behind(h.Words), words) || !slices.Equal(behind(h.Noted), notes) || !slices.Equal(behind(roots), was) {
		t.Errorf("it is %v, roots %v; was %v, %v, %v", h, roots, words, notes, was)
	}
	if again, _ := link.Link(b.k.Classes); !reflect.DeepEqual(again, b.k) {
		t.Errorf("the classes are %v now", b.k)
	}
}

// P2, P3: answers are new memory, share none, and are the same each time.
func TestAnswersAreNewMemory(t *testing.T) {
	for n, do := range calls() {
		b, roots := chain(t)
		was, rootsWere := copied(b.h), slices.Clone(roots)
		want, wantRoots := do(b.h, b.k, roots)
		h, l := do(b.h, b.k, roots)
		spoil(h.Words)
		if !slices.Equal(l, wantRoots) || !slices.Equal(h.Noted, want.Noted) {
			t.Errorf("%d: words share memory: %v, %v", n, h, l)
		}
		h, l = do(b.h, b.k, roots)
		spoil(h.Noted)
		if !slices.Equal(l, wantRoots) || !slices.Equal(h.Words, want.Words) {
			t.Errorf("%d: Noted shares memory: %v, %v", n, h, l)
		}
		h, l = do(b.h, b.k, roots)
		spoil(l)
		if !same(h, want) {
			t.Errorf("%d: roots share memory: %v", n, h)
		}
		if !same(b.h, was) || !slices.Equal(roots, rootsWere) {
			t.Errorf("%d: an answer shares what was handed in: %v, %v", n, b.h, roots)
		}
		h, l = do(b.h, b.k, roots)
		spoil(b.h.Words)
		spoil(b.h.Noted)
		spoil(roots)
		if !same(h, want) || !slices.Equal(l, wantRoots) {
			t.Errorf("%d: a later change is seen: %v, %v", n, h, l)
		}
	}
}
