// Package things: where the things of a heap are, and which of their words are refs, for all layers that go about heaps.
package things

import (
	"slices"

	"cinder/api"
)

// Thing of a heap.
type Thing struct{ At, Tag, Length, Hash int }

// Word n of a thing is at this address.
func (t Thing) Word(n int) int { return t.At + api.HeadWords + n }

// End is the address behind a thing's last word.
func (t Thing) End() int { return t.Word(t.Length) }

// Chart of a heap: where its things are.
type Chart struct {
	api.Heap
	api.Linked
	All    []Thing       // from the lowest address on
	places map[int]Thing // by addresses
}

// Find the things of a heap whose sizes and classes are right. False, if they do not end just at its tops.
func Find(h api.Heap, k api.Linked) (*Chart, bool) {
	c := &Chart{Heap: h, Linked: k, places: map[int]Thing{}}
	return c, c.walk(1, h.YoungTop) && c.walk(h.Young+1, h.OldTop)
}

func (c *Chart) walk(at, top int) bool {
	for at < top {
		t, ok := c.read(at, top)
		if !ok {
			return false
		}
		c.All = append(c.All, t)
		c.places[at] = t
		at = t.End()
	}
	return true
}

// read asks after the length ahead of the end: no sum may go round.
func (c *Chart) read(at, top int) (Thing, bool) {
	if at+api.HeadWords > top {
		return Thing{}, false
	}
	t := Thing{At: at, Tag: c.Words[at], Length: c.Words[at+1], Hash: c.Words[at+2]}
	return t, c.IsTag(t.Tag) && c.MayHave(t.Tag, t.Length) && t.End() <= top
}

// IsTag tells whether a tag is one, and, if it is a class's, whether there is that class.
func (c *Chart) IsTag(tag int) bool {
	return tag >= api.TagInts && tag < api.TagClass+len(c.Classes)
}

// MayHave tells whether a thing of a tag may have as many words.
func (c *Chart) MayHave(tag, length int) bool {
	if tag >= api.TagClass {
		return length == len(c.Fields[tag-api.TagClass])
	}
	return length >= 0 && length <= api.MaxRow
}

// At is the thing of an address; false, if it is none's.
func (c *Chart) At(at int) (Thing, bool) {
	t, ok := c.places[at]
	return t, ok
}

// MayLead tells whether a ref may have this value.
func (c *Chart) MayLead(ref int) bool {
	_, ok := c.At(ref)
	return ok || ref == 0
}

// IsYoung tells whether an address, or null, is of the young part.
func (c *Chart) IsYoung(at int) bool { return at > 0 && at <= c.Young }

// IsOld tells whether an address, or null, is of the old part.
func (c *Chart) IsOld(at int) bool { return at > c.Young }

// IsRef tells whether word n of a thing is a ref.
func (c *Chart) IsRef(t Thing, n int) bool {
	if t.Tag >= api.TagClass {
		return c.Fields[t.Tag-api.TagClass][n].Kind.Kind != api.KindInt
	}
	return t.Tag == api.TagObjects
}

// Refs are the addresses of those of a thing's words that are refs.
func (c *Chart) Refs(t Thing) []int {
	var l []int
	for n := range t.Length {
		if c.IsRef(t, n) {
			l = append(l, t.Word(n))
		}
	}
	return l
}

// HasRef tells whether one of a thing's refs is what is looked for.
func (c *Chart) HasRef(t Thing, is func(ref int) bool) bool {
	return slices.ContainsFunc(c.Refs(t), func(at int) bool { return is(c.Words[at]) })
}

// Copied heap: what is done to it is not seen in the other one.
func Copied(h api.Heap) api.Heap {
	h.Words = slices.Clone(h.Words)
	h.Noted = slices.Clone(h.Noted)
	return h
}
