package heap

import (
	"cinder/api"
	"cinder/fault"
	"cinder/things"
)

// wish for a thing, in one part of a heap.
type wish struct {
	whole
	tag, length int
	old         bool
}

// made is a heap with a new thing.
type made struct {
	api.Heap
	at int
}

// come gives up, if there may be no such thing; else it is made.
func (w wish) come() made {
	fault.Ask([]fault.Question{
		{Is: w.tagIsOne, Else: api.ErrKind},
		{Is: w.lengthMayBe, Else: api.ErrRange},
		{Is: w.hasRoom, Else: api.ErrFull},
	})
	g := w.own()
	at := g.Make(w.tag, w.length, w.old)
	return made{g.Heap, at}
}

func (w wish) tagIsOne() bool { return w.IsTag(w.tag) }

func (w wish) lengthMayBe() bool { return w.MayHave(w.tag, w.length) }

func (w wish) hasRoom() bool { return w.HasRoom(w.length, w.old) }

// own is a copy, for what changes a heap.
func (w whole) own() things.Ground { return things.Own(w.Heap, w.Linked) }

// thing gives up, if an address is none.
func (w whole) thing(at int) things.Thing {
	t, ok := w.At(at)
	fault.Demand(ok, api.ErrNone)
	return t
}

// thingWith gives up, too, if n is none of its words.
func (w whole) thingWith(at, n int) things.Thing {
	t := w.thing(at)
	fault.Demand(n >= 0 && n < t.Length, api.ErrRange)
	return t
}

func (w whole) set(at, n, value int) api.Heap {
	t := w.thingWith(at, n)
	fault.Demand(!w.IsRef(t, n) || w.MayLead(value), api.ErrNone)
	g := w.own()
	g.Set(t, n, value)
	return g.Heap
}
