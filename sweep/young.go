package sweep

import "cinder/things"

// mover has things go from a heap's young part to its old one. What they were stands where it was, until all are gone.
type mover struct {
	*things.Ground
	now  map[int]int // addresses, by those that things had
	gone []things.Thing
}

// Room that the old part would have left, if all that is young went there.
func (t *Task) Room() int {
	left := len(t.Words) - t.OldTop
	return left - (t.YoungTop - 1)
}

// CollectYoung has all young things that are reached go to the old part, which must have room for all of them.
func (t *Task) CollectYoung() {
	m := &mover{Ground: &t.Ground, now: map[int]int{}}
	for i, at := range t.Roots {
		t.Roots[i] = m.lead(at)
	}
	for _, at := range t.Noted {
		m.leadRefs(t.Thing(at))
	}
	for i := 0; i < len(m.gone); i++ { // it grows meanwhile
		m.leadRefs(m.gone[i])
	}
	t.leaveYoung()
}

// leadRefs has the refs of an old thing lead to where things are now.
func (m *mover) leadRefs(t things.Thing) {
	for _, at := range m.Refs(t) {
		m.Words[at] = m.lead(m.Words[at])
	}
}

// lead tells where a ref leads now; what it led to goes, if it is young and has not gone already.
func (m *mover) lead(ref int) int {
	if !m.IsYoung(ref) {
		return ref
	}
	if to, ok := m.now[ref]; ok {
		return to
	}
	return m.move(m.Thing(ref))
}

func (m *mover) move(t things.Thing) int {
	to := m.OldTop
	copy(m.Words[to:], m.Words[t.At:t.End()])
	m.now[t.At] = to
	t.At = to
	m.OldTop = t.End()
	m.gone = append(m.gone, t)
	return to
}
