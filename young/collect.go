package young

import (
	"slices"

	"cinder/api"
	"cinder/fault"
	"cinder/heap"
	"cinder/things"
)

// maxRoots is how many roots there may be.
const maxRoots = 1000

// task is a heap whose young part is to be collected, and from where on things are reached.
type task struct {
	*things.Chart
	roots []int
}

// collected is a heap with nothing young, and its roots.
type collected struct {
	api.Heap
	roots []int
}

// checked gives up, unless a heap's young part may be collected.
func checked(h api.Heap, k api.Linked, roots []int) task {
	e := heap.Check(h, k)
	fault.Demand(e == api.OK, e)
	c, _ := things.Find(h, k) // that it finds them Check tells
	t := task{c, roots}
	fault.Ask([]fault.Question{
		{Is: t.rootsAreFew, Else: api.ErrMany},
		{Is: t.rootsLead, Else: api.ErrNone},
		{Is: t.hasRoom, Else: api.ErrFull},
	})
	return t
}

func (t task) rootsAreFew() bool { return len(t.roots) <= maxRoots }

func (t task) rootsLead() bool {
	return !slices.ContainsFunc(t.roots, func(at int) bool { return !t.MayLead(at) })
}

func (t task) hasRoom() bool { return room(t.Heap) >= 0 }

// room that would be left, if all that is young went to the old part.
func room(h api.Heap) int {
	left := h.Young + h.Old + 1 - h.OldTop
	return left - (h.YoungTop - 1)
}

// mover has things go from a heap's young part to the old part of a copy.
type mover struct {
	*things.Chart             // of the heap as it was
	to            api.Heap    // the copy
	now           map[int]int // addresses, by those that things had
	gone          []things.Thing
}

func (t task) collect() collected {
	m := &mover{Chart: t.Chart, to: things.Copied(t.Heap), now: map[int]int{}}
	var roots []int
	for _, at := range t.roots {
		roots = append(roots, m.lead(at))
	}
	for _, at := range t.Noted {
		old, _ := t.At(at)
		m.leadRefs(old)
	}
	for i := 0; i < len(m.gone); i++ { // it grows meanwhile
		m.leadRefs(m.gone[i])
	}
	m.emptyYoung()
	return collected{m.to, roots}
}

// leadRefs has the refs of an old thing of the copy lead to where things are now.
func (m *mover) leadRefs(t things.Thing) {
	for _, at := range m.Refs(t) {
		m.to.Words[at] = m.lead(m.to.Words[at])
	}
}

// lead tells where a ref leads now; what it led to goes, if it is young and has not gone already.
func (m *mover) lead(ref int) int {
	if !m.IsYoung(ref) {
		return ref
	}
	if to, ok := m.now[ref]; ok {
		return to
	}
	t, _ := m.At(ref)
	return m.move(t)
}

func (m *mover) move(t things.Thing) int {
	to := m.to.OldTop
	copy(m.to.Words[to:], m.Words[t.At:t.End()])
	m.now[t.At] = to
	t.At = to
	m.to.OldTop = t.End()
	m.gone = append(m.gone, t)
	return to
}

func (m *mover) emptyYoung() {
	clear(m.to.Words[1 : m.Young+1])
	m.to.YoungTop = 1
	m.to.Noted = nil
}
