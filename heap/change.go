package heap

import (
	"slices"

	"cinder/api"
	"cinder/fault"
	"cinder/things"
)

// wish for a thing, in one part of a heap.
type wish struct {
	whole
	tag, length int
	old         bool
}

// made is a heap with a new thing.
type made struct {
	api.Heap
	at int
}

// come gives up, if there may be no such thing; else it is made.
func (w wish) come() made {
	fault.Ask([]fault.Question{
		{Is: w.tagIsOne, Else: api.ErrKind},
		{Is: w.lengthMayBe, Else: api.ErrRange},
		{Is: w.hasRoom, Else: api.ErrFull},
	})
	h := things.Copied(w.Heap)
	t := things.Thing{At: w.top(), Tag: w.tag, Length: w.length, Hash: h.Next}
	copy(h.Words[t.At:], []int{t.Tag, t.Length, t.Hash}) // those behind them are 0 already
	h.Next++
	if w.old {
		h.OldTop = t.End()
	} else {
		h.YoungTop = t.End()
	}
	return made{h, t.At}
}

func (w wish) tagIsOne() bool { return w.IsTag(w.tag) }

func (w wish) lengthMayBe() bool { return w.MayHave(w.tag, w.length) }

func (w wish) hasRoom() bool { return w.top()+api.HeadWords+w.length <= w.end() }

func (w wish) top() int {
	if w.old {
		return w.OldTop
	}
	return w.YoungTop
}

// end is the address behind its part.
func (w wish) end() int {
	if w.old {
		return len(w.Words)
	}
	return w.Young + 1
}

// thing gives up, if an address is none.
func (w whole) thing(at int) things.Thing {
	t, ok := w.At(at)
	fault.Demand(ok, api.ErrNone)
	return t
}

// thingWith gives up, too, if n is none of its words.
func (w whole) thingWith(at, n int) things.Thing {
	t := w.thing(at)
	fault.Demand(n >= 0 && n < t.Length, api.ErrRange)
	return t
}

func (w whole) set(at, n, value int) api.Heap {
	t := w.thingWith(at, n)
	ref := w.IsRef(t, n)
	fault.Demand(!ref || w.MayLead(value), api.ErrNone)
	h := things.Copied(w.Heap)
	h.Words[t.Word(n)] = value
	if ref && w.IsOld(at) && w.IsYoung(value) {
		h.Noted = withNoted(h.Noted, at)
	}
	return h
}

// withNoted keeps the list rising, and has none twice.
func withNoted(l []int, at int) []int {
	n, there := slices.BinarySearch(l, at)
	if there {
		return l
	}
	return slices.Insert(l, n, at)
}
