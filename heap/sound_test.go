package heap_test

import (
	"math"
	"reflect"
	"slices"
	"testing"

	"cinder/api"
	"cinder/heap"
	"cinder/link"
)

// change is what a heap must be behind a call, worked out word by word.
type change struct {
	*bench
	d    *draw
	tags map[int]int // by addresses
	ats  []int
}

func (c *change) any() int { return c.ats[c.d.below(len(c.ats))] }

func (c *change) makeSome() {
	tag := 1 + c.d.below(noClass-1)
	length := c.d.below(8)
	if tag >= api.TagClass {
		length = fieldsOf(tag)
	}
	old := c.d.below(2) == 0
	want := copied(c.h)
	top, end := &want.YoungTop, want.Young+1
	if old {
		top, end = &want.OldTop, len(want.Words)
	}
	h, at, e := heap.Make(c.h, c.k, tag, length, old)
	if *top+3+length > end {
		if e != api.ErrFull {
			c.Fatalf("no room for %d words in %v: %d", length, c.h, e)
		}
		return
	}
	want.Words[*top], want.Words[*top+1], want.Words[*top+2] = tag, length, want.Next
	c.tags[*top] = tag
	c.ats = append(c.ats, *top)
	if at != *top || e != api.OK {
		c.Fatalf("it is made at %d, %d, and top was %d", at, e, *top)
	}
	*top += 3 + length
	want.Next++
	c.mustBe(h, want)
}

func (c *change) setSome() {
	at := c.any()
	n := c.d.below(9) - 1
	value := []int{0, c.any(), c.any(), c.any(), c.d.below(60), -1, math.MaxInt}[c.d.below(7)]
	length := c.h.Words[at+1]
	h, e := heap.Set(c.h, c.k, at, n, value)
	ref := isRef(c.tags[at], n)
	_, is := c.tags[value]
	want := copied(c.h)
	switch {
	case n < 0 || n >= length:
		c.mustSay(e, api.ErrRange)
		return
	case ref && value != 0 && !is:
		c.mustSay(e, api.ErrNone)
		return
	}
	c.mustSay(e, api.OK)
	want.Words[at+3+n] = value
	if ref && at > want.Young && value > 0 && value <= want.Young && !slices.Contains(want.Noted, at) {
		want.Noted = append(want.Noted, at)
		slices.Sort(want.Noted)
	}
	c.mustBe(h, want)
	if got, e := heap.Get(c.h, c.k, at, n); got != value || e != api.OK {
		c.Fatalf("%d was set, and %d, %d is got", value, got, e)
	}
}

func (c *change) mustSay(e, want api.Errno) {
	c.Helper()
	if e != want {
		c.Fatalf("it says %d, want %d: %v", e, want, c.h)
	}
}

func (c *change) mustBe(h, want api.Heap) {
	c.Helper()
	if !same(h, want) {
		c.Fatalf("it is %v, want %v", h, want)
	}
	c.mustSay(heap.Check(h, c.k), api.OK)
	c.h = h
}

// E6: what is set is got, nothing else is changed, and what passes Check goes on passing it.
func TestChangesAreAsTold(t *testing.T) {
	d := draw(5)
	for range 100 {
		c := &change{bench: newBench(t, 3+d.below(60), 3+d.below(80)), d: &d, tags: map[int]int{}}
		for range 60 {
			if len(c.ats) == 0 || d.below(3) == 0 {
				c.makeSome()
			} else {
				c.setSome()
			}
		}
	}
}

// oddHeap is the sample, with some of it wrong, most times.
func oddHeap(b *bench, d *draw) api.Heap {
	odd := []int{math.MinInt, -1, 0, 1, 2, 3, 7, 20, 21, 31, 46, 50, 51, 500, 2001, math.MaxInt - 2, math.MaxInt}
	any := func() int { return odd[d.below(len(odd))] }
	h := copied(b.h)
	for range d.below(4) {
		switch d.below(10) {
		case 0:
			h.Words = h.Words[:d.below(len(h.Words)+1)]
		case 1:
			h.Young = any()
		case 2:
			h.Old = any()
		case 3:
			h.YoungTop = any()
		case 4:
			h.OldTop = any()
		case 5:
			h.Next = any()
		case 6:
			h.Noted = append(h.Noted, any())
		default:
			if len(h.Words) > 0 {
				h.Words[d.below(len(h.Words))] = any()
			}
		}
	}
	return h
}

// P1: none panics, whatever it is handed; and what passes Check goes on passing it.
func TestCallsEndWhateverTheyAreHanded(t *testing.T) {
	b := sample(t)
	d := draw(7)
	odd := []int{math.MinInt, -1, 0, 1, 2, 4, 6, 7, 12, 21, 26, 31, 35, 500, math.MaxInt}
	any := func() int { return odd[d.below(len(odd))] }
	passed := 0
	for range 20000 {
		h := oddHeap(b, &d)
		k := b.k
		if d.below(20) == 0 {
			k.Fields = k.Fields[:d.below(4)]
		}
		at, n, value := any(), any(), any()
		heap.New(at, n)
		e := heap.Check(h, k)
		heap.Tag(h, k, at)
		heap.Get(h, k, at, n)
		heap.Row(h, k, at)
		made, _, makes := heap.Make(h, k, at, n, d.below(2) == 0)
		set, sets := heap.Set(h, k, at, n, value)
		if e != api.OK {
			continue
		}
		passed++
		if makes == api.OK && h.Next < 1<<62 && heap.Check(made, k) != api.OK {
			t.Fatalf("Make(%d, %d) of %v is %v", at, n, h, made)
		}
		if sets == api.OK && heap.Check(set, k) != api.OK {
			t.Fatalf("Set(%d, %d, %d) of %v is %v", at, n, value, h, set)
		}
	}
	if passed < 1000 {
		t.Errorf("just %d passed Check", passed)
	}
	heap.Check(api.Heap{}, api.Linked{})
	heap.Make(api.Heap{}, b.k, 1, 1, false)
}

// spared has room behind its lists, with something in it.
func spared(h api.Heap) api.Heap {
	h.Words = append(slices.Grow(slices.Clone(h.Words), 9), 7, 7, 7, 7)[:len(h.Words)]
	h.Noted = append(slices.Grow(slices.Clone(h.Noted), 9), 8, 8, 8, 8)[:len(h.Noted)]
	return h
}

func behind(l []int) []int { return slices.Clone(l[:len(l)+4]) }

// P2: what is handed in is as it was, the spare room behind its lists too.
func TestHandedInIsOnlyRead(t *testing.T) {
	b := sample(t)
	h := spared(b.h)
	words, notes := behind(h.Words), behind(h.Noted)
	heap.Check(h, b.k)
	for _, old := range []bool{false, true} {
		heap.Make(h, b.k, api.TagInts, 1, old)
		heap.Make(h, b.k, 99, 1, old)
	}
	heap.Tag(h, b.k, oldNode)
	heap.Get(h, b.k, oldNode, 0)
	heap.Row(h, b.k, oldNode)
	heap.Set(h, b.k, oldNode, 1, youngNode)
	heap.Set(h, b.k, oldNode, 0, 5)
	heap.Set(h, b.k, oldNode, 1, 5)
	if !slices.Equal(behind(h.Words), words) || !slices.Equal(behind(h.Noted), notes) {
		t.Errorf("it is %v, %v, and was %v, %v", behind(h.Words), behind(h.Noted), words, notes)
	}
	if again, _ := link.Link(b.k.Classes); !reflect.DeepEqual(again, b.k) {
		t.Errorf("the classes are %v now", b.k)
	}
}

// spoil all of a list, with the room behind it.
func spoil(l []int) {
	l = l[:cap(l)]
	for i := range l {
		l[i] = 99
	}
}

// P2: an answer is new memory, and no two of its lists share any.
func TestAnswersAreNewMemory(t *testing.T) {
	b := sample(t)
	was := copied(b.h)
	answers := func() []api.Heap {
		empty, _ := heap.New(20, 30)
		made, _, _ := heap.Make(b.h, b.k, api.TagInts, 1, true)
		noted, _ := heap.Set(b.h, b.k, oldNode, 1, youngNode)
		old, _ := heap.Set(b.h, b.k, oldObjects, 0, 0)
		return []api.Heap{empty, made, noted, old}
	}
	want := answers()
	for i, h := range answers() {
		spoil(h.Words)
		if !slices.Equal(h.Noted, want[i].Noted) || !same(b.h, was) {
			t.Errorf("answer %d shares its words: %v, %v", i, h, b.h)
		}
		h = answers()[i]
		spoil(h.Noted)
		if !slices.Equal(h.Words, want[i].Words) || !same(b.h, was) {
			t.Errorf("answer %d shares what is Noted: %v, %v", i, h, b.h)
		}
	}
	l, _ := heap.Row(b.h, b.k, oldObjects)
	spoil(l)
	if !same(b.h, was) {
		t.Errorf("Row shares its words: %v", b.h)
	}
}

// P2, P3: a later change of what was handed in is not seen, and the same is answered each time.
func TestAnswersHangOnWhatIsHandedIn(t *testing.T) {
	for range 5 {
		b := sample(t)
		made, _, _ := heap.Make(b.h, b.k, node, 2, false)
		want := sample(t)
		want.make(node, 2, false)
		spoil(b.h.Words)
		spoil(b.h.Noted)
		if !same(made, want.h) {
			t.Fatalf("it is %v, want %v", made, want.h)
		}
	}
}
