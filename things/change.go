package things

import (
	"slices"

	"cinder/api"
)

// Own is a copy of a heap, with its classes: what is done to it is not seen in the other one.
func Own(h api.Heap, k api.Linked) Ground {
	h.Words = slices.Clone(h.Words)
	h.Noted = slices.Clone(h.Noted)
	return Ground{Heap: h, Linked: k}
}

// HasRoom tells whether a part has room for a thing with as many words beside its head.
func (g *Ground) HasRoom(length int, old bool) bool {
	top, end := g.part(old)
	return *top+api.HeadWords+length <= end
}

// Make a thing in a part that has room for it; its address.
func (g *Ground) Make(tag, length int, old bool) int {
	top, _ := g.part(old)
	t := Thing{At: *top, Tag: tag, Length: length, Hash: g.Next}
	copy(g.Words[t.At:], []int{t.Tag, t.Length, t.Hash}) // those behind them are 0 already
	g.Next++
	*top = t.End()
	return t.At
}

// part tells a part's next free word, and the address behind it.
func (g *Ground) part(old bool) (*int, int) {
	if old {
		return &g.OldTop, len(g.Words)
	}
	return &g.YoungTop, g.Young + 1
}

// Set word n of a thing.
func (g *Ground) Set(t Thing, n, value int) {
	g.Words[t.Word(n)] = value
	if g.IsRef(t, n) && g.IsOld(t.At) && g.IsYoung(value) {
		g.note(t.At)
	}
}

// note keeps the list rising, and has none twice.
func (g *Ground) note(at int) {
	n, there := slices.BinarySearch(g.Noted, at)
	if !there {
		g.Noted = slices.Insert(g.Noted, n, at)
	}
}
