package verify

import (
	"slices"

	"cinder/api"
	"cinder/fault"
)

// step is an operation that is looked at: its locals and stack become what it leaves.
type step struct {
	*looker
	api.Ins
	locals, stack []api.Kind
}

func (s *step) demand(holds bool, e api.Errno) { fault.DemandAt(holds, e, s.At) }

func (s *step) run() {
	s.demand(s.tellsOfSome(), api.ErrRange)
	if s.Op == api.OpSpawn {
		m := s.told()
		s.demand(m.Static && m.Returns.Kind == api.KindNone, api.ErrKind)
	}
	switch s.Op {
	case api.OpAdd, api.OpSub, api.OpMul, api.OpDiv, api.OpRem:
		s.take(number, number)
		s.put(number)
	case api.OpZero, api.OpLess, api.OpSame, api.OpNone:
		s.runBranch()
	case api.OpInts, api.OpObjects, api.OpAt, api.OpSet, api.OpLength:
		s.runRow()
	case api.OpNew, api.OpGet, api.OpPut, api.OpIs, api.OpCast, api.OpHash, api.OpLock, api.OpUnlock:
		s.runThing()
	case api.OpCall, api.OpReturn, api.OpThrow, api.OpSpawn, api.OpPrint, api.OpRead:
		s.runCall()
	default:
		s.runStack()
	}
	s.demand(len(s.stack) <= s.Stack, api.ErrMany)
}

// tellsOfSome asks whether there is the local, class, field or method that the operation tells of.
func (s *step) tellsOfSome() bool {
	switch s.Op {
	case api.OpLoad, api.OpStore:
		return s.A < len(s.locals)
	case api.OpNew, api.OpObjects, api.OpIs, api.OpCast:
		return s.A < len(s.Classes)
	case api.OpGet, api.OpPut:
		return s.A < len(s.Classes) && s.B < len(s.Fields[s.A])
	case api.OpCall, api.OpSpawn:
		return s.A < len(s.Classes) && s.B < len(s.Classes[s.A].Methods)
	}
	return true
}

// goesOn asks whether what it leaves comes to the operation behind it.
func (s *step) goesOn() bool {
	return s.Op != api.OpJump && s.Op != api.OpReturn && s.Op != api.OpThrow
}

// branches asks whether it may go to where A tells.
func (s *step) branches() bool {
	switch s.Op {
	case api.OpJump, api.OpZero, api.OpLess, api.OpSame, api.OpNone:
		return true
	}
	return false
}

// take gives up, unless the stack's end fits what is asked for, the last one last.
func (s *step) take(asked ...api.Kind) []api.Kind {
	from := len(s.stack) - len(asked)
	s.demand(from >= 0, api.ErrNone)
	taken := slices.Clone(s.stack[from:])
	for i, a := range taken {
		s.demand(s.fits(a, asked[i]), api.ErrKind)
	}
	s.stack = s.stack[:from]
	return taken
}

func (s *step) put(made ...api.Kind) { s.stack = append(s.stack, made...) }

func (s *step) runStack() {
	switch s.Op {
	case api.OpPush:
		s.put(number)
	case api.OpNull:
		s.put(null)
	case api.OpLoad:
		s.demand(s.locals[s.A] != anything, api.ErrKind)
		s.put(s.locals[s.A])
	case api.OpStore:
		s.locals[s.A] = s.take(anything)[0]
	case api.OpPop:
		s.take(anything)
	case api.OpDup:
		t := s.take(anything)
		s.put(t[0], t[0])
	case api.OpSwap:
		t := s.take(anything, anything)
		s.put(t[1], t[0])
	}
}

func (s *step) runBranch() {
	switch s.Op {
	case api.OpZero:
		s.take(number)
	case api.OpLess:
		s.take(number, number)
	case api.OpSame:
		s.take(thing, thing)
	case api.OpNone:
		s.take(thing)
	}
}

func (s *step) runRow() {
	switch s.Op {
	case api.OpInts:
		s.take(number)
		s.put(row)
	case api.OpObjects:
		s.take(number)
		s.put(api.Kind{Kind: api.KindObjects, Class: s.Classes[s.A].Name})
	case api.OpAt:
		t := s.take(anything, number)
		s.put(s.placeOf(t[0]))
	case api.OpSet:
		t := s.take(anything, number, anything)
		s.demand(s.maySet(s.placeOf(t[0]), t[2]), api.ErrKind)
	case api.OpLength:
		t := s.take(anything)
		s.placeOf(t[0])
		s.put(number)
	}
}

// placeOf gives up, unless it is a row or null: what its places have.
func (s *step) placeOf(a api.Kind) api.Kind {
	switch {
	case a == null:
		return null
	case a == row:
		return number
	}
	s.demand(a.Kind == api.KindObjects, api.ErrKind)
	return object(a.Class)
}

// maySet: of null, which has no place, it does not matter what is set, if it may be used at all.
func (s *step) maySet(place, value api.Kind) bool {
	if place == null {
		return value != anything
	}
	return s.fits(value, place)
}

func (s *step) runThing() {
	switch s.Op {
	case api.OpNew:
		s.put(s.ofClass())
	case api.OpGet:
		s.take(s.ofClass())
		s.put(s.Fields[s.A][s.B].Kind)
	case api.OpPut:
		s.take(s.ofClass(), s.Fields[s.A][s.B].Kind)
	case api.OpIs, api.OpHash:
		s.take(thing)
		s.put(number)
	case api.OpCast:
		s.take(thing)
		s.put(s.ofClass())
	case api.OpLock, api.OpUnlock:
		s.take(thing)
	}
}

// ofClass is an object's of the class that the operation tells of.
func (s *step) ofClass() api.Kind { return object(s.Classes[s.A].Name) }

// told is the method that the operation tells of.
func (s *step) told() api.Method { return s.Classes[s.A].Methods[s.B] }

func (s *step) runCall() {
	switch s.Op {
	case api.OpCall:
		m := s.told()
		if m.Static {
			s.take(m.Args...)
		} else {
			s.take(append([]api.Kind{s.ofClass()}, m.Args...)...)
		}
		s.put(something(m.Returns)...)
	case api.OpReturn:
		s.take(something(s.Returns)...)
	case api.OpThrow:
		s.take(object(api.ErrorClass))
	case api.OpSpawn:
		s.take(s.told().Args...)
	case api.OpPrint:
		s.take(number)
	case api.OpRead:
		s.put(number)
	}
}

// something is what is returned, if something is.
func something(returned api.Kind) []api.Kind {
	if returned.Kind == api.KindNone {
		return nil
	}
	return []api.Kind{returned}
}
