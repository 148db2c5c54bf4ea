// Package sweep: what is reached goes elsewhere, and what is not is gone, for all layers that collect.
package sweep

import (
	"slices"

	"cinder/api"
	"cinder/fault"
	"cinder/heap"
	"cinder/things"
)

// maxRoots is how many roots a caller may hand in.
const maxRoots = 1000

// Task is a heap of one's own, and roots: from them on its things are reached. Where these go, roots lead there.
type Task struct {
	things.Ground
	Roots []int
}

// handed is a heap that is right, and roots that are to be asked after.
type handed struct {
	*things.Chart
	roots []int
}

// Checked gives up, unless a heap is right, and roots lead to its things; else it is a task with copies of both.
func Checked(h api.Heap, k api.Linked, roots []int) Task {
	e := heap.Check(h, k)
	fault.Demand(e == api.OK, e)
	c, _ := things.Find(h, k) // that it finds them Check tells
	l := handed{c, roots}
	fault.Ask([]fault.Question{
		{Is: l.areFew, Else: api.ErrMany},
		{Is: l.lead, Else: api.ErrNone},
	})
	return Task{things.Own(h, k), slices.Clone(roots)}
}

func (l handed) areFew() bool { return len(l.roots) <= maxRoots }

func (l handed) lead() bool {
	return !slices.ContainsFunc(l.roots, func(at int) bool { return !l.MayLead(at) })
}

// Space makes a thing, where there is room, or can be; its address. False, if there is none at all.
func (t *Task) Space(tag, length int) (int, bool) {
	if t.HasRoom(length, false) {
		return t.Make(tag, length, false), true
	}
	partly := t.Room() >= 0
	if partly {
		t.CollectYoung()
	} else {
		t.CollectAll() // if it may not be, nothing is changed, and the old part may have room yet
	}
	if t.HasRoom(length, false) {
		return t.Make(tag, length, false), true
	}
	if partly && !t.HasRoom(length, true) {
		t.CollectAll()
	}
	if t.HasRoom(length, true) {
		return t.Make(tag, length, true), true
	}
	return 0, false
}

// leaveYoung has nothing be young, nor Noted.
func (t *Task) leaveYoung() {
	clear(t.Words[1 : t.Young+1])
	t.YoungTop = 1
	t.Noted = nil
}
