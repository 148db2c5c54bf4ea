package things

import "cinder/api"

// Chart of a heap: where its things are.
type Chart struct {
	Ground
	All    []Thing       // from the lowest address on
	places map[int]Thing // by addresses
}

// Find the things of a heap whose sizes and classes are right. False, if they do not end just at its tops.
func Find(h api.Heap, k api.Linked) (*Chart, bool) {
	c := &Chart{Ground: Ground{Heap: h, Linked: k}, places: map[int]Thing{}}
	return c, c.walk(1, h.YoungTop) && c.walk(h.Young+1, h.OldTop)
}

func (c *Chart) walk(at, top int) bool {
	for at < top {
		t, ok := c.read(at, top)
		if !ok {
			return false
		}
		c.All = append(c.All, t)
		c.places[at] = t
		at = t.End()
	}
	return true
}

// read asks after the length ahead of the end: no sum may go round.
func (c *Chart) read(at, top int) (Thing, bool) {
	if at+api.HeadWords > top {
		return Thing{}, false
	}
	t := c.Thing(at)
	return t, c.IsTag(t.Tag) && c.MayHave(t.Tag, t.Length) && t.End() <= top
}

// At is the thing of an address; false, if it is none's.
func (c *Chart) At(at int) (Thing, bool) {
	t, ok := c.places[at]
	return t, ok
}

// MayLead tells whether a ref may have this value.
func (c *Chart) MayLead(ref int) bool {
	_, ok := c.At(ref)
	return ok || ref == 0
}
