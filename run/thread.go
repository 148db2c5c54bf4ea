package run

import (
	"slices"

	"cinder/api"
)

// What threads end by: notEnded is that of those that did not, another that of those that an object of another class than ErrorClass ended.
const (
	notEnded = -2
	another  = -1
	returned = 0
)

// thread of frames, from the lowest one on.
type thread struct {
	number int
	frames []*frame
	end    int
}

// hasEnded is not told by its end: that may be whatever an object's first word is.
func (t *thread) hasEnded() bool { return len(t.frames) == 0 }

func (t *thread) uppermost() *frame { return t.frames[len(t.frames)-1] }

func (t *thread) enter(f *frame) { t.frames = append(t.frames, f) }

func (t *thread) leave() { t.frames = t.frames[:len(t.frames)-1] }

func (m *machine) spawn(f *frame) {
	m.threads = append(m.threads, &thread{number: len(m.threads), frames: []*frame{f}, end: notEnded})
}

// finish a thread whose last frame went: what it has locked is free.
func (m *machine) finish(t *thread, by int) {
	t.end = by
	m.locks = slices.DeleteFunc(m.locks, func(l lock) bool { return l.owner == t })
}

// lock of a thing, by a thread, so many times.
type lock struct {
	at, times int
	owner     *thread
}

// lockOf a thing: nil, if it is free.
func (m *machine) lockOf(at int) *lock {
	n := slices.IndexFunc(m.locks, func(l lock) bool { return l.at == at })
	if n < 0 {
		return nil
	}
	return &m.locks[n]
}

// waits tells whether a thread would lock what another one has locked.
func (m *machine) waits(t *thread) bool {
	f := t.uppermost()
	if f.op().Op != api.OpLock {
		return false
	}
	l := m.lockOf(f.last(1)[0])
	return l != nil && l.owner != t
}

// lock a thing, once more.
func (m *machine) lock(t *thread, at int) {
	if l := m.lockOf(at); l != nil {
		l.times++
		return
	}
	m.locks = append(m.locks, lock{at: at, times: 1, owner: t})
}

// unlock a thing, once less: false, if it is not the thread's own.
func (m *machine) unlock(t *thread, at int) bool {
	l := m.lockOf(at)
	if l == nil || l.owner != t {
		return false
	}
	l.times--
	m.locks = slices.DeleteFunc(m.locks, func(l lock) bool { return l.times == 0 })
	return true
}
