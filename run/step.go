package run

import "cinder/api"

// step is one operation of a thread's uppermost frame.
type step struct {
	*machine
	*thread
	*frame
	api.Ins
}

// nothing is thrown.
const nothing = 0

// step of a thread: its operation's work, or what is thrown instead.
func (m *machine) step(t *thread) {
	f := t.uppermost()
	s := step{m, t, f, f.op()}
	if code := s.work(); code != nothing {
		m.throw(t, m.failed(code))
	}
}

// work tells the code of what is to be thrown: nothing is changed then, and things that were taken are roots yet.
func (s step) work() int {
	switch s.Op {
	case api.OpAdd, api.OpSub, api.OpMul, api.OpDiv, api.OpRem:
		return s.count()
	case api.OpJump, api.OpZero, api.OpLess, api.OpSame, api.OpNone:
		return s.branch()
	case api.OpNew, api.OpInts, api.OpObjects:
		return s.makeOne()
	case api.OpLength:
		return s.measure()
	case api.OpAt, api.OpSet:
		return s.rowPlace()
	case api.OpGet, api.OpPut:
		return s.field()
	case api.OpIs, api.OpCast, api.OpHash:
		return s.ask()
	case api.OpLock, api.OpUnlock:
		return s.hold()
	case api.OpCall, api.OpReturn, api.OpThrow, api.OpSpawn:
		return s.leap()
	case api.OpPrint, api.OpRead:
		return s.tell()
	}
	return s.shift()
}

// number of 32 bits: what is beyond goes round.
func number(n int) int { return int(int32(n)) }

func (s step) shift() int {
	switch s.Op {
	case api.OpNop:
		s.goOn(0)
	case api.OpPush:
		s.goOn(0, s.A)
	case api.OpNull:
		s.goOn(0, 0)
	case api.OpLoad:
		s.goOn(0, s.locals[s.A])
	case api.OpStore:
		s.locals[s.A] = s.last(1)[0]
		s.goOn(1)
	case api.OpPop:
		s.goOn(1)
	case api.OpDup:
		s.goOn(0, s.last(1)[0])
	case api.OpSwap:
		l := s.last(2)
		s.goOn(2, l[1], l[0])
	}
	return nothing
}

func (s step) count() int {
	a, b := s.last(2)[0], s.last(2)[1]
	n := 0
	switch s.Op {
	case api.OpAdd:
		n = a + b
	case api.OpSub:
		n = a - b
	case api.OpMul:
		n = a * b
	case api.OpDiv, api.OpRem:
		if b == 0 {
			return api.CodeZero
		}
		n = a / b
		if s.Op == api.OpRem {
			n = a % b
		}
	}
	s.goOn(2, number(n))
	return nothing
}

func (s step) branch() int {
	took, goes := 0, true
	switch s.Op {
	case api.OpZero, api.OpNone:
		took, goes = 1, s.last(1)[0] == 0
	case api.OpLess:
		took, goes = 2, s.last(2)[0] < s.last(2)[1]
	case api.OpSame:
		took, goes = 2, s.last(2)[0] == s.last(2)[1]
	}
	s.goOn(took)
	if goes {
		s.n = s.place(s.A)
	}
	return nothing
}

func (s step) tell() int {
	if s.Op == api.OpPrint {
		s.trace.Printed = append(s.trace.Printed, api.Line{Thread: s.number, Number: s.last(1)[0]})
		s.goOn(1)
		return nothing
	}
	n := -1
	if len(s.input) > 0 {
		n = number(s.input[0])
		s.input = s.input[1:]
	}
	s.goOn(0, n)
	return nothing
}
