package run_test

import (
	"slices"
	"strconv"
	"strings"

	"cinder/api"
)

// What each local of a drawn method has, from the beginning on; those ahead of them are arguments.
const (
	aNumber = 4 + iota
	aNode
	aRow
	aList
	aThing
	anError
)

// writer draws a method's text: statements, each of which leaves the stack as it was.
type writer struct {
	*draw
	parts []string
	depth int // of the stack, where it writes
	calls bool
	row   int // how long rows are, at most
}

func (w *writer) put(grows int, part string) {
	w.parts = append(w.parts, part)
	w.depth += grows
}

func (w *writer) one(l ...func()) { l[w.below(len(l))]() }

// plain is whether nothing more may be put below what it writes.
func (w *writer) plain() bool { return w.depth > 4 || w.below(3) == 0 }

func (w *writer) load(local int) { w.put(1, "load "+strconv.Itoa(local)) }

func (w *writer) push(n int) { w.put(1, "push "+strconv.Itoa(n)) }

// number is put on the stack.
func (w *writer) number() {
	if w.plain() {
		w.one(func() { w.load(aNumber) }, func() { w.push(w.below(7) - 1) }, func() { w.put(1, "read") }, func() { w.push(w.below(65536) - 32768) })
		return
	}
	w.one(
		func() { w.number(); w.number(); w.put(-1, []string{"add", "sub", "mul", "div", "rem"}[w.below(5)]) },
		func() { w.number(); w.push(w.below(3)); w.put(-1, []string{"div", "rem"}[w.below(2)]) },
		func() { w.node(); w.put(0, "get Node.val") },
		func() { w.numbers(); w.index(); w.put(-1, "at") },
		func() { w.one(w.numbers, w.list); w.put(0, "length") },
		func() { w.thing(); w.put(0, "hash") },
		func() { w.thing(); w.put(0, "is "+w.class()) },
		func() { w.thing(); w.call("Object.self", 0) },
		func() { w.node(); w.number(); w.number(); w.call("Node.calc", -2) },
		func() { w.number(); w.number(); w.call("Object.sum", -1) },
		func() { w.failure(); w.put(0, "get Error.code") },
	)
}

// call is a method's, unless this one may call none.
func (w *writer) call(name string, grows int) {
	if !w.calls {
		for range -grows {
			w.put(-1, "pop")
		}
		w.put(0, "pop; push 3")
		return
	}
	w.put(grows, "call "+name)
}

func (w *writer) class() string {
	return []string{"Object", "Error", "Node", "Leaf", "Late"}[w.below(5)]
}

// index that is within a row, most times.
func (w *writer) index() {
	if w.below(8) == 0 {
		w.number()
		return
	}
	w.push(w.below(3))
}

func (w *writer) node() {
	if w.plain() {
		w.one(func() { w.load(aNode) }, func() { w.load(aNode) }, func() { w.load(aNode) }, func() { w.put(1, "new Node") }, func() { w.put(1, []string{"null", "new Leaf"}[w.below(2)]) })
		return
	}
	w.one(
		func() { w.node(); w.put(0, "get Node.next") },
		func() { w.list(); w.index(); w.put(-1, "at") },
		func() { w.thing(); w.put(0, "cast "+[]string{"Node", "Leaf"}[w.below(2)]) },
		func() { w.node(); w.give() },
	)
}

func (w *writer) give() {
	if w.calls {
		w.put(0, "call Object.give")
	}
}

func (w *writer) length() {
	switch w.below(14) {
	case 0:
		w.number()
	case 1:
		w.push([]int{-1, api.MaxRow, api.MaxRow + 1}[w.below(3)])
	default:
		w.push(w.below(w.row))
	}
}

func (w *writer) numbers() {
	w.one(func() { w.load(aRow) }, func() { w.load(aRow) }, func() { w.length(); w.put(0, "ints") }, func() { w.node(); w.put(0, "get Node.row") })
}

func (w *writer) list() {
	w.one(func() { w.load(aList) }, func() { w.load(aList) }, func() { w.length(); w.put(0, "objects Node") }, func() { w.node(); w.put(0, "get Node.kids") })
}

func (w *writer) failure() {
	w.one(func() { w.load(anError) }, func() { w.load(anError) }, func() { w.put(1, "new "+[]string{"Error", "Late"}[w.below(2)]) })
}

func (w *writer) thing() {
	if w.plain() {
		w.load(aThing)
		return
	}
	w.one(w.node, w.numbers, w.list, w.failure, func() { w.node(); w.put(0, "get Node.any") })
}

func (w *writer) store(local int) { w.put(-1, "store "+strconv.Itoa(local)) }

// to is the label of a statement, whichever.
func (w *writer) to(many int) string { return "s" + strconv.Itoa(w.below(many)) }

// statement that goes to one of as many statements, if it goes anywhere.
func (w *writer) statement(many int) {
	w.one(
		func() { w.number(); w.store(aNumber) },
		func() { w.node(); w.store(aNode) },
		func() { w.numbers(); w.store(aRow) },
		func() { w.list(); w.store(aList) },
		func() { w.thing(); w.store(aThing) },
		func() { w.failure(); w.store(anError) },
		func() { w.number(); w.put(-1, "print") },
		func() { w.number(); w.put(-1, "print") },
		func() { w.node(); w.number(); w.put(-2, "put Node.val") },
		func() { w.node(); w.node(); w.put(-2, "put Node.next") },
		func() { w.node(); w.numbers(); w.put(-2, "put Node.row") },
		func() { w.node(); w.list(); w.put(-2, "put Node.kids") },
		func() { w.node(); w.thing(); w.put(-2, "put Node.any") },
		func() { w.numbers(); w.index(); w.number(); w.put(-3, "set") },
		func() { w.list(); w.index(); w.node(); w.put(-3, "set") },
		func() { w.load(anError); w.number(); w.put(-2, "put Error.code") },
		func() { w.number(); w.put(-1, "zero "+w.to(many)) },
		func() { w.number(); w.number(); w.put(-2, "less "+w.to(many)) },
		func() { w.thing(); w.thing(); w.put(-2, "same "+w.to(many)) },
		func() { w.thing(); w.put(-1, "none "+w.to(many)) },
		func() { w.thing(); w.put(-1, "lock") },
		func() { w.load(aThing); w.put(-1, "lock") },
		func() { w.load(aNode); w.put(-1, "lock") },
		func() { w.load([]int{aThing, aNode}[w.below(2)]); w.put(-1, "unlock") },
		func() { w.load(aNode); w.number(); w.put(-2, "spawn Object.work") },
		func() { w.node(); w.number(); w.work() },
		func() { w.one(w.numbers, w.thing); w.call("Object.self", 0); w.store(aNumber) },
		func() { w.leap(many) },
		func() { w.thing(); w.number(); w.put(0, "swap; pop"); w.put(-2, "pop") },
	)
}

func (w *writer) work() {
	if w.calls {
		w.put(-2, "call Object.work")
		return
	}
	w.put(-2, "pop; pop")
}

// leap away, now and then.
func (w *writer) leap(many int) {
	switch w.below(6) {
	case 0:
		w.failure()
		w.put(-1, "throw; nop")
	case 1:
		w.put(0, "jump "+w.to(many)+"; nop")
	default:
		w.put(0, "nop")
	}
}

// text of a method: it begins with what its locals have, with a node of its own, and with something more; at its end it goes back, by this, or begins again; handlers go behind that.
func (w *writer) text(node, begin, back string) string {
	const most = 130 // bytes of statements, so that all fits
	many := 4 + w.below(9)
	var body []string
	size := 0
	for n := range many {
		w.parts = nil
		w.statement(many)
		text := strings.Join(w.parts, "; ")
		code, _ := assemble(base(), text+labels())
		if size += len(code); size > most {
			text = "nop"
		}
		body = append(body, "s"+strconv.Itoa(n)+":; "+text)
	}
	first := "push 3; store 4; " + node + "; dup; store 5; store 8; push 3; ints; store 6; push 3; objects Node; store 7; new Error; store 9; " + begin
	again := []string{"nop; ", "read; zero s0; ", "jump s0; "}[w.below(3)]
	return first + strings.Join(body, "; ") + "; end:; " + again + back + "; caught:; store 9; jump " + w.to(many) + w.handlers(many)
}

// handlers of a method with as many statements; there is always one, so that what stands behind its end is come to.
func (w *writer) handlers(many int) string {
	text := ""
	for range w.below(3) {
		from := w.below(many - 1)
		text += "; handle s" + strconv.Itoa(from) + " s" + strconv.Itoa(from+1+w.below(many-1-from)) + " caught " + []string{"Error", "Late"}[w.below(2)]
	}
	if w.below(4) > 0 {
		return text + "; handle s0 end caught Error"
	}
	return text + "; handle s0 s1 caught Late"
}

// labels of all that a text may go to, laid behind it, so that it can be assembled alone.
func labels() string {
	s := ""
	for n := range 13 {
		s += "; s" + strconv.Itoa(n) + ":"
	}
	return s
}

// classes whose methods are drawn: some call none, so that not all runs are deep.
func (d *draw) classes() []api.Class {
	w := &writer{draw: d, row: []int{3, 6, 12}[d.below(3)]}
	w.calls = d.below(2) == 0
	work, sum := w.text("load 0", "", "return"), w.text("new Leaf", "", "load 4; return")
	w.calls = true
	main := w.text("new Node", strings.Repeat("load 5; load 4; spawn Object.work; ", d.below(4)), "return")
	w.calls = false
	give, calc := w.text("load 0", "", "load 5; return"), w.text("load 0", "", "load 4; return")
	self := []string{"push 1; return", "load 0; call Object.self; return"}[d.below(2)]
	return builtOf(d.shuffled(base()), texts("Object.main", main, "Object.work", work, "Object.sum", sum, "Object.give", give, "Object.self", self, "Node.self", self, "Node.calc", calc))
}

// shuffled classes: no number of a class may matter.
func (d *draw) shuffled(l []api.Class) []api.Class {
	for i := range l {
		j := d.below(i + 1)
		l[i], l[j] = l[j], l[i]
	}
	return l
}

// script of a run of drawn classes.
func (d *draw) script() api.Script {
	s := api.Script{Young: 20 + d.below(80), Old: 20 + d.below(120), Fuel: d.below(500)}
	for range d.below(8) {
		s.Input = append(s.Input, d.below(9)-2)
	}
	for range d.below(5) {
		s.Picks = append(s.Picks, d.below(9)-4)
	}
	s.Small, s.Great = d.steps(s.Fuel), d.steps(s.Fuel)
	return s
}

// steps of some number, among as many.
func (d *draw) steps(fuel int) []int {
	var l []int
	for range []int{0, 0, 3, 20, 200}[d.below(5)] {
		l = append(l, d.below(fuel+1))
	}
	slices.Sort(l)
	return l
}
