package run

import (
	"slices"

	"cinder/api"
)

// leap is an operation by which a frame comes or goes.
func (s step) leap() int {
	switch s.Op {
	case api.OpCall:
		return s.call()
	case api.OpSpawn:
		return s.spawnOne()
	case api.OpThrow:
		return s.throwOne()
	}
	s.giveBack()
	return nothing
}

func (s step) call() int {
	m := s.methods[s.A][s.B]
	took := len(m.Args)
	if !m.Static {
		took++
		this := s.last(took)[0]
		if this == 0 {
			return api.CodeNull
		}
		m = s.target(s.classOf(this), m.Name)
	}
	if len(s.frames) == api.MaxFrames {
		return api.CodeDeep
	}
	s.enter(newFrame(m, s.last(took)))
	s.drop(took)
	return nothing
}

// target of a name that a class has.
func (m *machine) target(class int, name string) *method {
	t := m.Targets[class][slices.Index(m.Names[class], name)]
	return m.methods[t.Class][t.Method]
}

func (s step) spawnOne() int {
	if len(s.threads) == api.MaxThreads {
		return api.CodeMany
	}
	m := s.methods[s.A][s.B]
	s.spawn(newFrame(m, s.last(len(m.Args))))
	s.goOn(len(m.Args))
	return nothing
}

func (s step) throwOne() int {
	at := s.last(1)[0]
	if at == 0 {
		return api.CodeNull
	}
	s.throw(s.thread, at)
	return nothing
}

// giveBack what is returned, if something is, to the frame below.
func (s step) giveBack() {
	var l []int
	if s.Returns.Kind != api.KindNone {
		l = s.last(1)
	}
	s.leave()
	if s.hasEnded() {
		s.finish(s.thread, returned)
		return
	}
	s.uppermost().goOn(0, l...)
}
