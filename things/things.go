// Package things: the things of a heap: where they are, which of their words are refs, how they are made and changed, for all layers that go about heaps.
package things

import (
	"slices"

	"cinder/api"
)

// Thing of a heap.
type Thing struct{ At, Tag, Length, Hash int }

// Word n of a thing is at this address.
func (t Thing) Word(n int) int { return t.At + api.HeadWords + n }

// End is the address behind a thing's last word.
func (t Thing) End() int { return t.Word(t.Length) }

// Size is how many words a thing has in all.
func (t Thing) Size() int { return t.End() - t.At }

// Ground is a heap, and the classes of its things.
type Ground struct {
	api.Heap
	api.Linked
}

// Thing at an address: that there is one must be known.
func (g *Ground) Thing(at int) Thing {
	return Thing{At: at, Tag: g.Words[at], Length: g.Words[at+1], Hash: g.Words[at+2]}
}

// IsTag tells whether a tag is one, and, if it is a class's, whether there is that class.
func (g *Ground) IsTag(tag int) bool {
	return tag >= api.TagInts && tag < api.TagClass+len(g.Classes)
}

// MayHave tells whether a thing of a tag may have as many words.
func (g *Ground) MayHave(tag, length int) bool {
	if tag >= api.TagClass {
		return length == len(g.Fields[tag-api.TagClass])
	}
	return length >= 0 && length <= api.MaxRow
}

// IsYoung tells whether an address, or null, is of the young part.
func (g *Ground) IsYoung(at int) bool { return at > 0 && at <= g.Young }

// IsOld tells whether an address, or null, is of the old part.
func (g *Ground) IsOld(at int) bool { return at > g.Young }

// IsRef tells whether word n of a thing is a ref.
func (g *Ground) IsRef(t Thing, n int) bool {
	if t.Tag >= api.TagClass {
		return g.Fields[t.Tag-api.TagClass][n].Kind.Kind != api.KindInt
	}
	return t.Tag == api.TagObjects
}

// Refs are the addresses of those of a thing's words that are refs.
func (g *Ground) Refs(t Thing) []int {
	var l []int
	for n := range t.Length {
		if g.IsRef(t, n) {
			l = append(l, t.Word(n))
		}
	}
	return l
}

// HasRef tells whether one of a thing's refs is what is looked for.
func (g *Ground) HasRef(t Thing, is func(ref int) bool) bool {
	return slices.ContainsFunc(g.Refs(t), func(at int) bool { return is(g.Words[at]) })
}
