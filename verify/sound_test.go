package verify_test

import (
	"slices"
	"testing"

	"cinder/api"
	"cinder/code"
	"cinder/verify"
)

// walker runs a method by kinds: what locals and the stack have is a number, null, a row, or an object of one class; anything is what nothing was put into.
type walker struct {
	t      *testing.T
	d      *draw
	k      api.Linked
	m      api.Method
	list   []api.Ins
	states []api.State
	n      int
	locals []api.Kind
	stack  []api.Kind
}

func (w *walker) must(holds bool, what string) {
	w.t.Helper()
	if !holds {
		w.t.Fatalf("%s, at %d of %x, with handlers %v: locals %v, stack %v, states %v", what, w.list[w.n].At, w.m.Code, w.m.Handlers, w.locals, w.stack, w.states)
	}
}

func (w *walker) isUnder(a, b string) bool {
	for a != b && a != "" {
		a = w.k.Classes[slices.IndexFunc(w.k.Classes, func(c api.Class) bool { return c.Name == a })].Super
	}
	return a == b
}

// may tells whether something may stand where a kind is told, as runs see it.
func (w *walker) may(has, told api.Kind) bool {
	switch {
	case told == anything, has == told:
		return true
	case has == null || told == object("Object"):
		return told != number && has != number && has != anything
	}
	return has.Kind == api.KindObject && told.Kind == api.KindObject && w.isUnder(has.Class, told.Class)
}

// some is something that may stand where a kind is told.
func (w *walker) some(told api.Kind) api.Kind {
	l := slices.DeleteFunc(kinds(number, null, row, objects("Node"), objects("Leaf"), object("Object"), object("Error"), object("Late"), object("Node"), object("Leaf")),
		func(a api.Kind) bool { return !w.may(a, told) })
	return l[w.d.below(len(l))]
}

func (w *walker) look() {
	w.t.Helper()
	s := w.states[w.n]
	w.must(s.Comes && len(s.Locals) == len(w.locals) && len(s.Stack) == len(w.stack) && len(w.stack) <= w.m.Stack, "it may not come there so")
	for i, a := range w.locals {
		w.must(w.may(a, s.Locals[i]), "a local is not as told")
	}
	for i, a := range w.stack {
		w.must(w.may(a, s.Stack[i]), "a place is not as told")
	}
}

func (w *walker) pop(told api.Kind) api.Kind {
	w.must(len(w.stack) > 0, "nothing to take")
	last := len(w.stack) - 1
	a := w.stack[last]
	w.must(w.may(a, told), "what is taken may not be")
	w.stack = w.stack[:last]
	return a
}

// throw goes to a handler; false, if there is none.
func (w *walker) throw(class string) bool {
	at := w.list[w.n].At
	for _, h := range w.m.Handlers {
		if h.From <= at && at < h.To && w.isUnder(class, h.Class) {
			w.stack = kinds(object(class))
			w.n, _ = code.Place(w.list, h.At)
			return true
		}
	}
	return false
}

// walk some steps, with what is thrown now and then, whatever the operation is.
func (w *walker) walk() {
	w.stack = nil
	w.locals = nil
	w.n = 0
	for _, a := range w.m.Args {
		w.locals = append(w.locals, w.some(a))
	}
	for len(w.locals) < w.m.Locals {
		w.locals = append(w.locals, anything)
	}
	for range 30 {
		w.look()
		goes := false
		if w.d.below(8) == 0 {
			if w.list[w.n].Op == api.OpStore && w.d.below(2) == 0 {
				w.locals[w.list[w.n].A] = w.pop(anything)
			}
			goes = w.throw([]string{"Error", "Late"}[w.d.below(2)])
		} else {
			goes = w.step()
		}
		if !goes {
			return
		}
	}
}

// step is one operation; false, if it is the last one.
func (w *walker) step() bool {
	x := w.list[w.n]
	switch x.Op {
	case api.OpReturn:
		if w.m.Returns != (api.Kind{}) {
			w.pop(w.m.Returns)
		}
		return false
	case api.OpThrow:
		if a := w.pop(object("Error")); a != null {
			return w.throw(a.Class)
		}
		return w.throw("Error")
	case api.OpJump, api.OpZero, api.OpLess, api.OpSame, api.OpNone:
		for _, told := range map[int][]api.Kind{api.OpZero: {number}, api.OpLess: {number, number}, api.OpSame: {object("Object"), object("Object")}, api.OpNone: {object("Object")}}[x.Op] {
			w.pop(told)
		}
		if x.Op == api.OpJump || w.d.below(2) == 0 {
			w.n, _ = code.Place(w.list, x.A)
			return true
		}
	case api.OpGet, api.OpPut, api.OpAt, api.OpSet, api.OpCall:
		if !w.ask(x) {
			return w.throw("Error")
		}
	default:
		w.plain(x)
	}
	w.n++
	w.must(w.n < len(w.list), "it goes beyond the end")
	return true
}

// ask a thing; false, if it is null.
func (w *walker) ask(x api.Ins) bool {
	switch x.Op {
	case api.OpGet:
		if w.pop(object(w.k.Classes[x.A].Name)) == null {
			return false
		}
		w.stack = append(w.stack, w.some(w.k.Fields[x.A][x.B].Kind))
	case api.OpPut:
		w.pop(w.k.Fields[x.A][x.B].Kind)
		return w.pop(object(w.k.Classes[x.A].Name)) != null
	case api.OpAt, api.OpSet:
		value := anything
		if x.Op == api.OpSet {
			value = w.pop(anything)
			w.must(value != anything, "what is set is anything")
		}
		w.pop(number)
		in := w.pop(anything)
		if in == null {
			return false
		}
		place := number
		if in != row {
			w.must(in.Kind == api.KindObjects, "no row")
			place = object(in.Class)
		}
		w.must(x.Op == api.OpAt || w.may(value, place), "what is set may not be there")
		if x.Op == api.OpAt {
			w.stack = append(w.stack, w.some(place))
		}
	case api.OpCall:
		m := w.k.Classes[x.A].Methods[x.B]
		for _, a := range slices.Backward(m.Args) {
			w.pop(a)
		}
		if !m.Static && w.pop(object(w.k.Classes[x.A].Name)) == null {
			return false
		}
		if m.Returns != (api.Kind{}) {
			w.stack = append(w.stack, w.some(m.Returns))
		}
	}
	return true
}

func (w *walker) plain(x api.Ins) {
	thing := object("Object")
	switch x.Op {
	case api.OpNop:
	case api.OpPush, api.OpRead:
		w.stack = append(w.stack, number)
	case api.OpNull:
		w.stack = append(w.stack, null)
	case api.OpLoad:
		w.must(w.locals[x.A] != anything, "nothing was put there")
		w.stack = append(w.stack, w.locals[x.A])
	case api.OpStore:
		w.locals[x.A] = w.pop(anything)
	case api.OpPop:
		w.pop(anything)
	case api.OpDup:
		a := w.pop(anything)
		w.stack = append(w.stack, a, a)
	case api.OpSwap:
		a, b := w.pop(anything), w.pop(anything)
		w.stack = append(w.stack, a, b)
	case api.OpAdd, api.OpSub, api.OpMul, api.OpDiv, api.OpRem:
		w.pop(number)
		w.pop(number)
		w.stack = append(w.stack, number)
	case api.OpNew:
		w.stack = append(w.stack, object(w.k.Classes[x.A].Name))
	case api.OpInts:
		w.pop(number)
		w.stack = append(w.stack, row)
	case api.OpObjects:
		w.pop(number)
		w.stack = append(w.stack, objects(w.k.Classes[x.A].Name))
	case api.OpLength:
		a := w.pop(thing)
		w.must(a == null || a == row || a.Kind == api.KindObjects, "no row")
		w.stack = append(w.stack, number)
	case api.OpIs, api.OpHash:
		w.pop(thing)
		w.stack = append(w.stack, number)
	case api.OpCast:
		if a := w.pop(thing); !w.may(a, object(w.k.Classes[x.A].Name)) {
			w.stack = append(w.stack, null)
		} else {
			w.stack = append(w.stack, a)
		}
	case api.OpPrint:
		w.pop(number)
	case api.OpSpawn:
		for _, a := range slices.Backward(w.k.Classes[x.A].Methods[x.B].Args) {
			w.pop(a)
		}
	case api.OpLock, api.OpUnlock:
		w.pop(thing)
	default:
		w.must(false, "no operation")
	}
}

// method draws one that is right now and then.
func (d *draw) method() api.Method {
	m := api.Method{Static: true, Args: kinds(number, object("Node"), objects("Leaf")), Locals: 4 + d.below(2), Stack: 1 + d.below(5)}
	var ops []api.Ins
	length := 4 + d.below(10)
	for range length {
		x := api.Ins{Op: d.below(api.Ops)}
		if d.below(3) == 0 {
			x.Op = []int{api.OpLoad, api.OpStore, api.OpNull, api.OpNew, api.OpRead}[d.below(5)]
		}
		switch x.Op {
		case api.OpLoad, api.OpStore:
			x.A = d.below(m.Locals)
		case api.OpNew, api.OpObjects, api.OpIs, api.OpCast:
			x.A = d.below(late + 1)
		case api.OpGet, api.OpPut:
			x.A = node + d.below(2)
			x.B = d.below(2 * (x.A - 1))
		case api.OpCall, api.OpSpawn:
			x.A, x.B = node, d.below(tried)
		}
		if isBranch(x.Op) {
			x.A = d.below(length)
		}
		ops = append(ops, x)
	}
	ops = append(ops, op(api.OpReturn))
	m.Code = bytes(ops...)
	starts := laid(ops)
	for range d.below(3) {
		from := d.below(len(ops) - 1)
		to := from + 1 + d.below(len(ops)-from-1)
		m.Handlers = append(m.Handlers, api.Handler{From: starts[from].At, To: starts[to].At, At: starts[d.below(len(ops))].At, Class: []string{"Error", "Late"}[d.below(2)]})
	}
	return m
}

// D6, and the whole: each operation of what is right may be run with what its state tells.
func TestWhatIsRightMayRun(t *testing.T) {
	d := draw(4)
	k := with(t, d.method())
	sound, handled := 0, 0
	for range 60000 {
		m := d.method()
		m.Name = "tried"
		k.Classes[node].Methods[tried] = m // what they are called with is the same, so they stay linked
		states, f := verify.Method(k, node, tried)
		if f.Err != api.OK {
			continue
		}
		list, _ := code.Decode(m.Code)
		sound++
		if len(m.Handlers) > 0 && slices.ContainsFunc(list, func(x api.Ins) bool { return x.Op == api.OpStore }) {
			handled++
		}
		w := walker{t: t, d: &d, k: k, m: m, list: list, states: states}
		for range 20 {
			w.walk()
		}
	}
	if sound < 300 || handled < 30 {
		t.Errorf("just %d were right, %d with handlers and stores", sound, handled)
	}
}
