package run

import (
	"slices"

	"cinder/api"
	"cinder/heap"
	"cinder/link"
	"cinder/sweep"
	"cinder/things"
)

// machine is a run: its heap, and all that leads there.
type machine struct {
	sweep.Task // its roots are told ahead of whatever has things go elsewhere
	told       script
	methods    [][]*method
	top        int // the number of TopClass
	failure    int // that of ErrorClass
	full       int // where the full error is
	threads    []*thread
	locks      []lock
	input      []int // what was not read yet
	trace      api.Trace
}

func start(k api.Linked, methods [][]*method, s api.Script, main *method) *machine {
	h, _ := heap.New(s.Young, s.Old) // sizes were asked after
	m := &machine{told: script{s}, methods: methods, input: s.Input}
	m.Ground = things.Ground{Heap: h, Linked: k}
	m.top, _ = link.Find(k, api.TopClass) // it is linked: both are there
	m.failure, _ = link.Find(k, api.ErrorClass)
	m.full = m.Make(api.TagClass+m.failure, len(k.Fields[m.failure]), true)
	m.setCode(m.full, api.CodeFull)
	m.spawn(newFrame(main, nil))
	return m
}

func (m *machine) run() api.Trace {
	m.trace.End = m.stepOn()
	for _, t := range m.threads {
		m.trace.Ends = append(m.trace.Ends, t.end)
	}
	return m.trace
}

// stepOn until there is an end, and tell which.
func (m *machine) stepOn() int {
	for m.trace.Steps < m.told.Fuel {
		may := m.thoseThatMayStep()
		if len(may) == 0 {
			return m.endAtRest()
		}
		m.collectAsTold()
		m.step(may[m.told.pick(m.trace.Steps, len(may))])
		m.trace.Steps++
	}
	return api.EndFuel
}

func (m *machine) thoseThatMayStep() []*thread {
	return slices.DeleteFunc(slices.Clone(m.threads), func(t *thread) bool { return t.hasEnded() || m.waits(t) })
}

func (m *machine) endAtRest() int {
	if slices.ContainsFunc(m.threads, func(t *thread) bool { return !t.hasEnded() }) {
		return api.EndStuck
	}
	return api.EndDone
}

// collectAsTold by the script, ahead of a step.
func (m *machine) collectAsTold() {
	switch n := m.trace.Steps; {
	case slices.Contains(m.told.Great, n):
		m.withRoots(func() { m.CollectAll() })
	case slices.Contains(m.told.Small, n) && m.Room() >= 0:
		m.withRoots(m.CollectYoung)
	}
}

// withRoots does what may have things go elsewhere: whatever led to them leads there then.
func (m *machine) withRoots(do func()) {
	l := m.leading()
	m.Roots = nil
	for _, at := range l {
		m.Roots = append(m.Roots, *at)
	}
	do()
	for i, at := range m.Roots {
		*l[i] = at
	}
}

// leading to things are the full error, all refs of frames, and what is locked.
func (m *machine) leading() []*int {
	l := []*int{&m.full}
	for _, t := range m.threads {
		for _, f := range t.frames {
			l = append(l, f.refs()...)
		}
	}
	for i := range m.locks {
		l = append(l, &m.locks[i].at)
	}
	return l
}

// makeThing where there is room: false, if there is none. All frames must be as they were ahead of the step.
func (m *machine) makeThing(tag, length int) (at int, room bool) {
	m.withRoots(func() { at, room = m.Space(tag, length) })
	return at, room
}
