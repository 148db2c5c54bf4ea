package verify

import (
	"slices"

	"cinder/api"
	"cinder/code"
	"cinder/fault"
)

// looker looks at the operations of a method, as long as what comes to them changes.
type looker struct {
	kinds
	api.Method
	list   []api.Ins
	states []api.State
	again  []bool // which operations are to be looked at
}

func (k kinds) statesOf(class, method int) []api.State {
	l := &looker{kinds: k, Method: k.Classes[class].Methods[method]}
	locals := l.firstLocals(class)
	l.decode()
	for _, h := range l.Handlers {
		l.checkHandler(h)
	}
	l.come(0, locals, nil)
	for n := l.next(); n >= 0; n = l.next() {
		l.again[n] = false
		l.look(n)
	}
	return l.states
}

func (l *looker) firstLocals(class int) []api.Kind {
	var locals []api.Kind
	if !l.Static {
		locals = append(locals, object(l.Classes[class].Name))
	}
	locals = append(locals, l.Args...)
	fault.Demand(len(locals) <= l.Locals, api.ErrRange)
	for len(locals) < l.Locals {
		locals = append(locals, anything)
	}
	return locals
}

func (l *looker) decode() {
	list, f := code.Decode(l.Code)
	fault.DemandAt(f.Err == api.OK, f.Err, f.At)
	l.list = list
	l.states = make([]api.State, len(list))
	l.again = make([]bool, len(list))
}

func (l *looker) checkHandler(h api.Handler) {
	fault.Demand(h.From < h.To && l.begins(h.From) && l.begins(h.At), api.ErrRange)
	fault.Demand(l.begins(h.To) || h.To == len(l.Code), api.ErrRange)
	fault.Demand(l.is(h.Class, api.ErrorClass), api.ErrKind)
}

func (l *looker) begins(at int) bool {
	_, e := code.Place(l.list, at)
	return e == api.OK
}

// next is the first operation that is to be looked at, -1 if none is.
func (l *looker) next() int { return slices.Index(l.again, true) }

func (l *looker) look(n int) {
	known := l.states[n]
	s := step{looker: l, Ins: l.list[n], locals: slices.Clone(known.Locals), stack: slices.Clone(known.Stack)}
	s.run()
	last := n == len(l.list)-1
	s.demand(!last || !s.goesOn(), api.ErrForm)
	l.comeToHandlers(s.At, known.Locals)
	if s.Op == api.OpStore {
		l.comeToHandlers(s.At, s.locals)
	}
	if s.goesOn() {
		l.come(n+1, s.locals, s.stack)
	}
	if s.branches() {
		l.comeAt(s.A, s.locals, s.stack)
	}
}

func (l *looker) comeToHandlers(at int, locals []api.Kind) {
	for _, h := range l.Handlers {
		if h.From <= at && at < h.To {
			l.comeAt(h.At, locals, []api.Kind{object(h.Class)})
		}
	}
}

// comeAt comes to the operation that begins at a byte; that there is one was asked ahead of it.
func (l *looker) comeAt(at int, locals, stack []api.Kind) {
	n, _ := code.Place(l.list, at)
	l.come(n, locals, stack)
}

func (l *looker) come(n int, locals, stack []api.Kind) {
	s, at := &l.states[n], l.list[n].At
	fault.DemandAt(!s.Comes || len(s.Stack) == len(stack), api.ErrState, at)
	// What an operation leaves has room already: this is for what comes to handlers.
	fault.DemandAt(len(stack) <= l.Stack, api.ErrMany, at)
	if !s.Comes {
		*s = api.State{Comes: true, Locals: slices.Clone(locals), Stack: slices.Clone(stack)}
		l.again[n] = true
		return
	}
	if l.joinInto(s.Locals, locals) {
		l.again[n] = true
	}
	if l.joinInto(s.Stack, stack) {
		l.again[n] = true
	}
}

// joinInto tells whether something changed.
func (l *looker) joinInto(known, come []api.Kind) bool {
	changed := false
	for i, a := range known {
		known[i] = l.join(a, come[i])
		changed = changed || known[i] != a
	}
	return changed
}
