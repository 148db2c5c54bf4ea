package run_test

import (
	"math"
	"reflect"
	"slices"
	"testing"

	"cinder/api"
	"cinder/image"
	"cinder/link"
	"cinder/run"
	"cinder/verify"
)

// tally of what drawn runs came to: a test that came to nothing would tell nothing.
type tally struct {
	codes, ends, threads map[int]int
	full, steps          int
}

func newTally() *tally {
	return &tally{codes: map[int]int{}, ends: map[int]int{}, threads: map[int]int{}}
}

func (y *tally) add(x api.Trace, m *model) {
	for c, n := range m.codes {
		y.codes[c] += n
	}
	y.ends[x.End]++
	y.threads[len(x.Ends)]++
	y.steps += x.Steps
	if x.Full {
		y.full++
	}
}

// H2 to H6: drawn runs are as a model that goes by the calls of the chapters ahead tells, step by step, with where there is no room.
func TestRunsAreAsTold(t *testing.T) {
	d := draw(21)
	y := newTally()
	for range 250 {
		l, s := d.classes(), d.script()
		m := layeredModel(t, l, s)
		x, want := mustRun(t, l, s), m.run()
		if !same(x, want) {
			t.Fatalf("by %v it is\n%v, want\n%v, of\n%v", s, x, want, l)
		}
		y.add(x, m)
	}
	for c := api.CodeNull; c <= api.CodeMany; c++ {
		if y.codes[c] < 5 {
			t.Errorf("code %d was thrown %d times", c, y.codes[c])
		}
	}
	if y.full < 10 || y.ends[api.EndDone] < 10 || y.ends[api.EndFuel] < 10 || y.threads[1] == 0 || y.threads[api.MaxThreads] < 10 || y.steps < 20000 {
		t.Errorf("they came to %v", y)
	}
}

// H7, D6, and the whole: collecting is not seen: runs that differ in Small, Great, Young and Old alone, and have never been Full, have the same trace, and nothing comes to what its states do not tell. Whoever has enough room is never Full.
func TestCollectingIsNotSeen(t *testing.T) {
	d := draw(22)
	y := newTally()
	never, enough := 0, 0
	for range 250 {
		l, s := d.classes(), d.script()
		m := modelOf(t, l, s)
		want := m.run()
		y.add(want, m)
		for range 8 {
			other := d.script()
			s.Young, s.Old, s.Small, s.Great = other.Young, other.Old, d.steps(s.Fuel), d.steps(s.Fuel)
			if d.below(4) == 0 {
				s.Old = api.MaxPart
			}
			x := mustRun(t, l, s)
			if m.made+4 <= s.Old {
				enough++
				if x.Full {
					t.Fatalf("by %v it is Full, and %d words were made", s, m.made)
				}
			}
			if x.Full {
				continue
			}
			never++
			if !same(x, want) {
				t.Fatalf("by %v it is\n%v, want\n%v, of\n%v", s, x, want, l)
			}
		}
	}
	if never < 1000 || enough < 300 || y.steps < 20000 || y.codes[api.CodeFull] != 0 {
		t.Errorf("just %d were never Full, %d had enough room: %v", never, enough, y)
	}
}

// The whole: what is written is read as it was, and runs as it did.
func TestImagesRunAsTheirClasses(t *testing.T) {
	d := draw(26)
	for range 30 {
		l, s := d.classes(), d.script()
		text, e := image.Write(l)
		if e != api.OK {
			t.Fatalf("Write says %d", e)
		}
		back, e := image.Read(text)
		if e != api.OK {
			t.Fatalf("Read says %d", e)
		}
		if x, want := mustRun(t, back, s), mustRun(t, l, s); !same(x, want) {
			t.Fatalf("it is %v, want %v", x, want)
		}
	}
}

// chance draws code by chance, behind what gives each local something; it is right now and then.
func (d *draw) chance(l []api.Class) api.Method {
	m := api.Method{Name: "main", Static: true, Stack: api.MaxStack, Locals: api.MaxLocals}
	first := "push 2; store 0; new Node; store 1; push 2; ints; store 2; push 2; objects Node; store 3; null; store 4; new Late; store 5; "
	for range d.below(4) {
		first += "new Leaf; store 1; load 1; store 6; "[d.below(2)*17:]
	}
	start, _ := assemble(l, first)
	ops := []api.Ins{}
	many := 3 + d.below(12)
	for range many {
		x := api.Ins{Op: d.below(api.Ops)}
		if d.below(2) == 0 {
			x.Op = []int{api.OpLoad, api.OpLoad, api.OpStore, api.OpPrint, api.OpPop, api.OpGet}[d.below(6)]
		}
		switch x.Op {
		case api.OpPush:
			x.A = d.below(4) - 1
		case api.OpLoad, api.OpStore:
			x.A = d.below(8)
		case api.OpNew, api.OpObjects, api.OpIs, api.OpCast:
			x.A = d.below(len(l))
		case api.OpGet, api.OpPut:
			x.A, x.B = d.below(2)*d.below(len(l)), d.below(6)
		case api.OpCall, api.OpSpawn:
			x.A, x.B = d.below(len(l)), d.below(5)
		}
		ops = append(ops, x)
	}
	ops = append(ops, api.Ins{Op: api.OpReturn})
	at := len(start)
	var starts []int
	for _, x := range ops {
		starts = append(starts, at)
		at += len(mustEncode(api.Ins{Op: x.Op}))
	}
	m.Code = start
	for _, x := range ops {
		if x.Op >= api.OpJump && x.Op <= api.OpNone {
			x.A = starts[d.below(len(starts))]
		}
		m.Code += mustEncode(x)
	}
	for range d.below(3) {
		from := d.below(many)
		m.Handlers = append(m.Handlers, api.Handler{From: starts[from], To: starts[from+1+d.below(many-from)], At: starts[d.below(many+1)], Class: []string{"Error", "Late"}[d.below(2)]})
	}
	return m
}

// D6, H7, and the whole: no run comes to what may not be, whatever code passes: rows where TopClass is told, too.
func TestWhatPassesMayRun(t *testing.T) {
	d := draw(23)
	l := base()
	l[0].Fields = fields(field("mark", number), field("link", object("Object")))
	l = builtOf(l, plain())
	y := newTally()
	used := map[int]int{}
	for range 60000 {
		l[0].Methods[0] = d.chance(l)
		k, e := link.Link(l)
		if e != api.OK {
			t.Fatalf("Link says %d", e)
		}
		if _, f := verify.Method(k, 0, 0); f.Err != api.OK {
			continue
		}
		s := d.script()
		s.Fuel = 60
		m := modelOf(t, l, s)
		want := m.run()
		x := mustRun(t, l, s)
		y.add(x, m)
		if !x.Full && !same(x, want) {
			t.Fatalf("by %v %v is\n%v, want\n%v", s, l[0].Methods[0], x, want)
		}
		used[len(l[0].Methods[0].Handlers)]++
	}
	if y.steps < 10000 || used[0] < 100 || used[1] < 20 || y.codes[api.CodeRange] < 3 {
		t.Errorf("just so many passed: %v, %v", y, used)
	}
}

// P1: none panics, whatever it is handed.
func TestCallsEndWhateverTheyAreHanded(t *testing.T) {
	d := draw(24)
	odd := []int{math.MinInt, -1, 0, 1, 19, 20, 21, 100, 2000, 2001, 20000, 20001, math.MaxInt}
	any := func() int { return odd[d.below(len(odd))] }
	ran := 0
	for range 3000 {
		l, s := mainOf("new Node; hash; print; push 5; ints; pop; return"), d.script()
		switch d.below(9) {
		case 0:
			s.Young, s.Old = any(), any()
		case 1:
			s.Fuel = any()
		case 2:
			s.Input, s.Picks, s.Small, s.Great = []int{any()}, []int{any(), any()}, []int{any()}, []int{any()}
		case 3:
			l = l[d.below(len(l)):]
		case 4:
			l[0].Methods = l[0].Methods[d.below(3):]
		case 5:
			b := []byte(l[0].Methods[0].Code)
			b[d.below(len(b))] = byte(d.below(40))
			l[0].Methods[0].Code = string(b)
		case 6:
			l[d.below(len(l))].Super = []string{"", "Node", "Leaf", "Q"}[d.below(4)]
		case 7:
			l[0].Methods[0].Stack, l[0].Methods[0].Locals = d.below(4), d.below(3)
		}
		x, e := run.Run(l, s)
		if e == api.OK {
			ran++
		} else if !same(x, api.Trace{}) {
			t.Fatalf("%v beside error %d", x, e)
		}
		k, _ := link.Link(l)
		run.Check(k, s)
		run.Check(api.Linked{Classes: l}, s)
	}
	run.Run(nil, api.Script{})
	run.Check(api.Linked{}, api.Script{})
	if ran < 500 {
		t.Errorf("just %d ran", ran)
	}
}

// spare is a list with room behind it, and something in it.
func spare[T any](l []T, with T) []T {
	return append(slices.Grow(slices.Clone(l), 9), with, with, with)[:len(l)]
}

func behind[T any](l []T) []T { return slices.Clone(l[:len(l)+3]) }

// spareClasses has room behind all lists.
func spareClasses(l []api.Class) []api.Class {
	for i, c := range l {
		for j, m := range c.Methods {
			l[i].Methods[j].Args = spare(m.Args, number)
			l[i].Methods[j].Handlers = spare(m.Handlers, api.Handler{Class: "Q"})
		}
		l[i].Fields, l[i].Methods = spare(c.Fields, field("q", number)), spare(l[i].Methods, api.Method{Name: "q"})
	}
	return spare(l, api.Class{Name: "Q"})
}

// P2: what is handed in is as it was, the spare room behind its lists too.
func TestHandedInIsOnlyRead(t *testing.T) {
	d := draw(25)
	classes := d.classes()
	copied := func() []api.Class { k, _ := link.Link(classes); return k.Classes }
	l, was := spareClasses(copied()), spareClasses(copied())
	s := d.script()
	s.Fuel = 300
	s.Input, s.Picks, s.Small, s.Great = spare([]int{4, 5, 1 << 40}, 7), spare([]int{3, -1}, 7), spare([]int{9, 5, 80}, 7), spare([]int{70, 6}, 7)
	lists := [][]int{behind(s.Input), behind(s.Picks), behind(s.Small), behind(s.Great)}
	k, _ := link.Link(l)
	if e := run.Check(k, s); e != api.OK {
		t.Fatalf("Check says %d", e)
	}
	if again, _ := link.Link(l); !reflect.DeepEqual(again, k) {
		t.Errorf("Check changes what is linked: %v", k)
	}
	mustRun(t, l, s)
	for i, got := range [][]int{behind(s.Input), behind(s.Picks), behind(s.Small), behind(s.Great)} {
		if !slices.Equal(got, lists[i]) {
			t.Errorf("list %d is %v, was %v", i, got, lists[i])
		}
	}
	for i := range l {
		if !reflect.DeepEqual(behind(l[i].Fields), behind(was[i].Fields)) || !reflect.DeepEqual(behind(l[i].Methods), behind(was[i].Methods)) {
			t.Errorf("class %d is %v now", i, l[i])
		}
		for j := range l[i].Methods {
			a, b := l[i].Methods[j], was[i].Methods[j]
			if !reflect.DeepEqual(behind(a.Args), behind(b.Args)) || !reflect.DeepEqual(behind(a.Handlers), behind(b.Handlers)) {
				t.Errorf("method %d of class %d is %v now", j, i, a)
			}
		}
	}
	if !reflect.DeepEqual(behind(l), behind(was)) {
		t.Errorf("classes are %v now", l)
	}
}

// P2, P3: an answer is new memory, its lists share none, and it is the same each time.
func TestAnswersAreNewMemory(t *testing.T) {
	l := built(texts("Object.main", "null; push 3; spawn Object.work; read; print; read; print; return", "Object.work", "load 1; print; return"))
	s := wide()
	s.Input = []int{4, 5}
	want := mustRun(t, l, s)
	if len(want.Printed) != 3 || len(want.Ends) != 2 {
		t.Fatalf("it is %v", want)
	}
	for range 5 {
		x := mustRun(t, l, s)
		if !same(x, want) {
			t.Fatalf("it is %v, was %v", x, want)
		}
		for i := range x.Ends[:cap(x.Ends)] {
			x.Ends[:cap(x.Ends)][i] = 99
		}
		if !slices.Equal(x.Printed, want.Printed) {
			t.Fatalf("lists share memory: %v", x)
		}
		for i := range x.Printed[:cap(x.Printed)] {
			x.Printed[:cap(x.Printed)][i] = api.Line{Thread: 99, Number: 99}
		}
		if !slices.Equal(s.Input, []int{4, 5}) {
			t.Fatalf("an answer shares what was handed in: %v", s)
		}
	}
	x := mustRun(t, l, s)
	s.Input[0], s.Input[1], l[0].Methods[0].Code = 9, 9, ""
	if !same(x, want) {
		t.Errorf("a later change is seen: %v", x)
	}
}
