package run_test

import (
	"math"
	"slices"
	"strconv"
	"strings"
	"testing"

	"cinder/api"
	"cinder/link"
	"cinder/run"
)

// H2 to H4: the document's eighth example.
func TestExample(t *testing.T) {
	l := []api.Class{
		{Name: "Object", Methods: []api.Method{{Name: "main", Static: true, Stack: 1, Code: "\x01\x00\x07\x1f\x1b"}}},
		{Name: "Error", Super: "Object", Fields: fields(field("code", number))},
	}
	want := api.Trace{Printed: []api.Line{{Thread: 0, Number: 7}}, Ends: []int{0}, End: api.EndDone, Steps: 3}
	if x := mustRun(t, l, wide()); !same(x, want) {
		t.Errorf("it is %v, want %v", x, want)
	}
}

// H1: errors of Run, in their order.
func TestRunTellsErrors(t *testing.T) {
	turned := func(do func(l []api.Class)) []api.Class {
		l := mainOf("return")
		do(l)
		return l
	}
	for _, c := range []struct {
		what string
		l    []api.Class
		s    api.Script
		want api.Errno
	}{
		{"all is right", mainOf("return"), wide(), api.OK},
		{"no classes, no script", nil, api.Script{}, api.ErrNone},
		{"a name that is none", turned(func(l []api.Class) { l[2].Name = "" }), api.Script{}, api.ErrForm},
		{"a class twice", append(mainOf("return"), api.Class{Name: "Node", Super: "Object"}), api.Script{}, api.ErrTwice},
		{"not linked, with a fault", turned(func(l []api.Class) { l[2].Super, l[2].Methods[0].Code = "Leaf", "" }), api.Script{}, api.ErrState},
		{"a fault of main", mainOf("pop; return"), api.Script{}, api.ErrKind},
		{"a fault of what is not called", built(texts("Leaf.calc", "return")), wide(), api.ErrKind},
		{"no code", turned(func(l []api.Class) { l[3].Methods[0].Code = "" }), wide(), api.ErrKind},
		{"a fault, and no main", turned(func(l []api.Class) { l[0].Methods[0].Name, l[3].Methods[0].Code = "start", "" }), wide(), api.ErrKind},
		{"no main", turned(func(l []api.Class) { l[0].Methods[0].Name = "start" }), api.Script{}, api.ErrNone},
		{"main of another class", turned(func(l []api.Class) {
			l[2].Methods = append(l[2].Methods, l[0].Methods[0])
			l[0].Methods[0].Name = "start"
		}), wide(), api.ErrNone},
		{"main is not static", turned(func(l []api.Class) { l[0].Methods[0].Static = false }), wide(), api.ErrNone},
		{"main has an argument", turned(func(l []api.Class) { l[0].Methods[0].Args = []api.Kind{number} }), wide(), api.ErrNone},
		{"main returns something", turned(func(l []api.Class) { l[0].Methods[0].Returns, l[0].Methods[0].Code = number, "\x20\x1b" }), wide(), api.ErrNone},
		{"a script that is none", mainOf("return"), api.Script{}, api.ErrRange},
		{"main alone may be wrong by its script", mainOf("return"), api.Script{Input: make([]int, 1001)}, api.ErrMany},
	} {
		x, e := run.Run(c.l, c.s)
		if e != c.want {
			t.Errorf("%s: %d, want %d", c.what, e, c.want)
		}
		if e != api.OK && !same(x, api.Trace{}) {
			t.Errorf("%s: %v beside an error", c.what, x)
		}
	}
}

// H1: errors of Check, with their edges; Run tells the same.
func TestCheckTellsErrors(t *testing.T) {
	l := mainOf("return")
	k, _ := link.Link(l)
	with := func(do func(s *api.Script)) api.Script {
		s := wide()
		do(&s)
		return s
	}
	long, most := make([]int, 1001), make([]int, 1000)
	for i, c := range []struct {
		s    api.Script
		want api.Errno
	}{
		{wide(), api.OK},
		{with(func(s *api.Script) { s.Input, s.Picks, s.Small, s.Great = most, most, most, most }), api.OK},
		{with(func(s *api.Script) { s.Input = long }), api.ErrMany},
		{with(func(s *api.Script) { s.Picks = long }), api.ErrMany},
		{with(func(s *api.Script) { s.Small = long }), api.ErrMany},
		{with(func(s *api.Script) { s.Great, s.Young = long, 0 }), api.ErrMany},
		{with(func(s *api.Script) { s.Young, s.Old, s.Fuel = 20, 20, 0 }), api.OK},
		{with(func(s *api.Script) { s.Young, s.Old, s.Fuel = api.MaxPart, api.MaxPart, api.MaxFuel }), api.OK},
		{with(func(s *api.Script) { s.Young = 19 }), api.ErrRange},
		{with(func(s *api.Script) { s.Old = 19 }), api.ErrRange},
		{with(func(s *api.Script) { s.Young = api.MaxPart + 1 }), api.ErrRange},
		{with(func(s *api.Script) { s.Old = api.MaxPart + 1 }), api.ErrRange},
		{with(func(s *api.Script) { s.Young = math.MinInt }), api.ErrRange},
		{with(func(s *api.Script) { s.Old = math.MaxInt }), api.ErrRange},
		{with(func(s *api.Script) { s.Fuel = -1 }), api.ErrRange},
		{with(func(s *api.Script) { s.Fuel = api.MaxFuel + 1 }), api.ErrRange},
	} {
		if e := run.Check(k, c.s); e != c.want {
			t.Errorf("%d: Check says %d, want %d", i, e, c.want)
		}
		if _, e := run.Run(l, c.s); e != c.want {
			t.Errorf("%d: Run says %d, want %d", i, e, c.want)
		}
	}
	k.Supers = nil
	if e := run.Check(k, api.Script{Input: long}); e != api.ErrState {
		t.Errorf("not linked: %d", e)
	}
	if e := run.Check(api.Linked{}, wide()); e != api.ErrState {
		t.Errorf("no classes: %d", e)
	}
}

// shown is a text of main, what it prints, and by what it ends.
type shown struct {
	text string
	want string
	end  int
}

func (c shown) try(t *testing.T, l []api.Class, s api.Script) {
	t.Helper()
	x := mustRun(t, l, s)
	var got []string
	for _, n := range printed(x) {
		got = append(got, strconv.Itoa(n))
	}
	if strings.Join(got, " ") != c.want || x.Ends[0] != c.end || x.End != api.EndDone || x.Full {
		t.Errorf("%s: it is %v, want %s, and %d", c.text, x, c.want, c.end)
	}
}

// H2, H4: numbers are of 32 bits.
func TestNumbers(t *testing.T) {
	great := "push 32767; push 2; mul; push 2; add; push 32767; mul; push 32767; push 2; mul; push 2; add; add; push 1; sub; store 0;" // 2^31 - 1
	for _, c := range []shown{
		{"push -32768; print; push 32767; print", "-32768 32767", 0},
		{"push 3; push 5; add; print; push 3; push 5; sub; print; push 3; push -5; mul; print", "8 -2 -15", 0},
		{"push 7; push 2; div; print; push -7; push 2; div; print; push 7; push -2; div; print; push -7; push -2; div; print", "3 -3 -3 3", 0},
		{"push 7; push 2; rem; print; push -7; push 2; rem; print; push 7; push -2; rem; print; push -7; push -2; rem; print", "1 -1 1 -1", 0},
		{great + "load 0; print; load 0; push 1; add; print", "2147483647 -2147483648", 0},
		{great + "load 0; push -1; mul; push 1; sub; dup; print; push 1; sub; print", "-2147483648 2147483647", 0},
		{great + "load 0; push 1; add; dup; push -1; div; print; push -1; rem; print", "-2147483648 0", 0},
		{great + "load 0; load 0; mul; print; load 0; push 1; add; dup; mul; print", "1 0", 0},
		{"push 1; push 0; div; print", "", api.CodeZero},
		{"push 1; push 0; rem; print", "", api.CodeZero},
		{"push 0; push 1; div; print", "0", 0},
	} {
		c.try(t, mainOf(c.text+"; return"), wide())
	}
}

// H4: Input is read as of 32 bits, and then -1.
func TestRead(t *testing.T) {
	s := wide()
	s.Input = []int{5, -7, 1<<31 - 1, 1 << 31, -1 << 31, -1<<31 - 1, 1<<33 + 4, math.MaxInt, math.MinInt}
	c := shown{strings.Repeat("read; print; ", 11), "5 -7 2147483647 -2147483648 -2147483648 2147483647 4 -1 0 -1 -1", 0}
	c.try(t, mainOf(c.text+"return"), s)
}

// H4: what goes elsewhere, and what does not.
func TestBranches(t *testing.T) {
	say := func(branch string) string {
		return branch + " yes; push 0; print; jump end; yes:; push 1; print; end:; "
	}
	for _, c := range []shown{
		{say("push 0; zero"), "1", 0}, {say("push 1; zero"), "0", 0}, {say("push -1; zero"), "0", 0},
		{say("push 1; push 2; less"), "1", 0}, {say("push 2; push 2; less"), "0", 0}, {say("push 3; push 2; less"), "0", 0}, {say("push -1; push 0; less"), "1", 0},
		{say("null; null; same"), "1", 0}, {say("new Node; null; same"), "0", 0}, {say("new Node; dup; same"), "1", 0}, {say("new Node; new Node; same"), "0", 0}, {say("push 0; ints; push 0; ints; same"), "0", 0},
		{say("null; none"), "1", 0}, {say("new Node; none"), "0", 0}, {say("push 0; ints; none"), "0", 0},
		{say("jump"), "1", 0},
		{"push 3; store 0; again:; load 0; print; load 0; push 1; sub; dup; store 0; zero end; jump again; end:; nop; ", "3 2 1", 0},
	} {
		c.try(t, mainOf(c.text+"return"), wide())
	}
}

// H4: the stack and locals.
func TestStack(t *testing.T) {
	for _, c := range []shown{
		{"push 1; push 2; swap; print; print", "1 2", 0},
		{"push 1; push 2; pop; print", "1", 0},
		{"push 4; dup; add; print", "8", 0},
		{"push 4; store 9; push 5; store 0; load 9; print; load 0; print", "4 5", 0},
		{"null; store 3; load 3; none a; nop; a:; push 2; print", "2", 0},
		{"nop; nop", "", 0},
	} {
		c.try(t, mainOf(c.text+"; return"), wide())
	}
}

// H4: things: their words, lengths, and hashes; the full error has the first hash.
func TestThings(t *testing.T) {
	for _, c := range []shown{
		{"new Node; store 0; load 0; get Node.val; print; load 0; push 9; put Node.val; load 0; get Node.val; print; load 0; hash; print", "0 9 2", 0},
		{"new Leaf; store 0; load 0; push 9; put Leaf.more; load 0; get Node.val; print; load 0; get Leaf.more; print; load 0; push 3; put Node.val; load 0; get Leaf.val; print", "0 9 3", 0},
		{"new Node; store 0; load 0; load 0; put Node.next; load 0; get Node.next; get Node.next; hash; print; load 0; get Node.row; none a; nop; a:; load 0; push 1; ints; put Node.any; load 0; get Node.any; hash; print", "2 3", 0},
		{"push 3; ints; store 0; load 0; length; print; load 0; push 2; push 5; set; load 0; push 0; at; print; load 0; push 2; at; print", "3 0 5", 0},
		{"push 2; objects Node; store 0; load 0; length; print; load 0; push 1; new Leaf; set; load 0; push 1; at; hash; print; load 0; push 0; at; none a; nop; a:; load 0; hash; print", "2 3 2", 0},
		{"push 0; ints; length; print; push 0; objects Leaf; length; print; push 300; ints; length; print", "0 0 300", 0},
	} {
		c.try(t, mainOf(c.text+"; return"), wide())
	}
}

// H4: what a thing is.
func TestIsAndCast(t *testing.T) {
	for _, c := range []shown{
		{"new Node; is Node; print; new Leaf; is Node; print; new Node; is Leaf; print; new Leaf; is Error; print", "1 1 0 0", 0},
		{"new Node; is Object; print; null; is Object; print; null; is Node; print; push 1; ints; is Object; print; push 1; ints; is Node; print; push 1; objects Node; is Node; print; push 1; objects Node; is Object; print", "1 0 0 1 0 0 1", 0},
		{"new Leaf; cast Node; hash; print; null; cast Leaf; none a; nop; a:; push 1; ints; cast Object; hash; print; new Leaf; cast Leaf; get Leaf.more; print", "2 3 0", 0},
		{"new Node; cast Leaf; pop", "", api.CodeCast}, {"new Node; cast Error; pop", "", api.CodeCast}, {"push 1; objects Node; cast Node; pop", "", api.CodeCast}, {"push 1; ints; cast Leaf; pop", "", api.CodeCast},
	} {
		c.try(t, mainOf(c.text+"; return"), wide())
	}
}

// H4: calls: static ones, and those by the thing's class; arguments are in the first locals.
func TestCalls(t *testing.T) {
	for _, c := range []shown{
		{"push 5; push 7; call Object.sum; print", "12", 0},
		{"new Node; push 5; push 7; call Node.calc; print", "-2", 0},
		{"new Leaf; store 0; load 0; push 8; put Leaf.more; load 0; push 5; push 7; call Node.calc; print; load 0; push 5; push 7; call Leaf.calc; print", "8 8", 0},
		{"new Node; call Object.self; print; new Leaf; call Object.self; print; new Error; call Object.self; print; new Object; call Object.self; print; new Leaf; call Node.self; print", "2 2 1 1 2", 0},
		{"push 2; ints; call Object.self; print; push 2; objects Node; call Object.self; print", "1 1", 0},
		{"push 1; push 2; push 3; call Object.sum; print; print", "5 1", 0},
		{"new Node; call Object.give; hash; print; null; call Object.give; none a; nop; a:; null; push 4; call Object.work", "2", 0},
	} {
		c.try(t, mainOf(c.text+"; return"), wide())
	}
}

// H4, H5: the codes of what is thrown, and which goes ahead of which.
func TestCodes(t *testing.T) {
	for _, c := range []shown{
		{"null; get Node.val; pop", "", api.CodeNull}, {"null; push 1; put Node.val", "", api.CodeNull}, {"null; null; put Node.next", "", api.CodeNull},
		{"null; push 0; at; pop", "", api.CodeNull}, {"null; push -1; push 1; set", "", api.CodeNull}, {"null; push -1; at; pop", "", api.CodeNull}, {"null; length; pop", "", api.CodeNull},
		{"null; call Object.self; pop", "", api.CodeNull}, {"null; push 1; push 2; call Leaf.calc; pop", "", api.CodeNull}, {"null; hash; pop", "", api.CodeNull},
		{"null; lock", "", api.CodeNull}, {"null; unlock", "", api.CodeNull}, {"null; throw; nop", "", api.CodeNull},
		{"push 3; ints; push 3; at; pop", "", api.CodeRange}, {"push 3; ints; push -1; at; pop", "", api.CodeRange}, {"push 3; ints; push 3; push 1; set", "", api.CodeRange}, {"push 0; objects Node; push 0; at; pop", "", api.CodeRange}, {"push 1; objects Node; push 1; null; set", "", api.CodeRange},
		{"push -1; ints; pop", "", api.CodeSize}, {"push 501; ints; pop", "", api.CodeSize}, {"push -1; objects Leaf; pop", "", api.CodeSize}, {"push 501; objects Leaf; pop", "", api.CodeSize}, {"push -32768; ints; pop", "", api.CodeSize},
		{"new Node; unlock", "", api.CodeLock}, {"new Node; store 0; load 0; lock; load 0; unlock; load 0; unlock", "", api.CodeLock}, {"new Node; lock; new Node; unlock", "", api.CodeLock},
		{"new Error; throw; nop", "", 0}, {"new Error; dup; push -2; put Error.code; throw; nop", "", -2}, {"new Error; dup; push 77; put Error.code; throw; nop", "", 77}, {"new Late; throw; nop", "", -1},
		{"again:; call Object.main; jump again; nop", "", api.CodeDeep},
	} {
		c.try(t, mainOf(c.text+"; return"), wide())
	}
}

// H5: null is told ahead of there being too many frames.
func TestNullIsToldAheadOfDeep(t *testing.T) {
	for _, c := range []shown{
		{"load 0; push 1; sub; dup; store 0; zero end; load 0; load 0; call Object.sum; return; end:; null; push 1; push 1; call Node.calc; return", "", api.CodeNull},
		{"load 0; push 1; sub; dup; store 0; zero end; load 0; load 0; call Object.sum; return; end:; new Node; push 1; push 1; call Node.calc; return", "", api.CodeDeep},
		{"load 0; push 1; sub; dup; store 0; zero end; load 0; load 0; call Object.sum; return; end:; push 3; return", "3", 0},
	} {
		c.try(t, built(texts("Object.sum", c.text, "Object.main", "push 7; push 0; call Object.sum; print; return")), wide())
	}
}

// H2, H4: no number of a class matters.
func TestClassesMayStandInAnyOrder(t *testing.T) {
	d := draw(31)
	for range 20 {
		for _, c := range []shown{
			{"push 1; ints; is Object; print; new Leaf; is Node; print; push 1; ints; call Object.self; print; new Leaf; call Object.self; print; null; length; pop", "1 1 1 2", api.CodeNull},
			{"a:; new Late; throw; b:; return; c:; is Late; print; new Late; throw; handle a b c Error", "1", -1},
		} {
			c.try(t, builtOf(d.shuffled(base()), texts("Object.main", c.text+"; nop; return")), wide())
		}
	}
}

// H2, H4: a row fits TopClass, but has none of its fields: that place is none.
func TestRowsHaveNoFields(t *testing.T) {
	for _, text := range []string{"push 2; ints; get Object.mark; print", "push 0; ints; get Object.mark; print", "push 2; objects Node; get Object.mark; print", "push 2; objects Node; push 1; put Object.mark", "push 2; ints; push 1; put Object.mark"} {
		l := base()
		l[0].Fields = fields(field("mark", number))
		c := shown{text, "", api.CodeRange}
		c.try(t, builtOf(l, texts("Object.main", text+"; return")), wide())
	}
	l := base()
	l[0].Fields = fields(field("mark", number))
	c := shown{"new Leaf; dup; dup; push 6; put Object.mark; get Object.mark; print; get Leaf.val; print; null; length; pop", "6 0", api.CodeNull}
	c.try(t, builtOf(l, texts("Object.main", c.text+"; return")), wide())
}

// H5, H6: of what is thrown; the first handler that fits takes it, with its stack of just that.
func TestHandlers(t *testing.T) {
	div := "a:; push 3; push 1; push 0; div; b:; print; print; return; c:; get Error.code; print; return; d:; is Late; push 10; add; print; return; e:; nop; handle "
	for _, c := range []shown{
		{div + "a b c Error", "2", 0},
		{div + "a b c Late", "", 2},
		{div + "b c c Error", "", 2},
		{div + "a b d Late; handle a b c Error", "2", 0},
		{div + "a b c Error; handle a b d Error", "2", 0},
		{div + "a b d Error; handle a b c Error", "10", 0},
		{div + "b c c Error; handle a e d Error", "10", 0},
		{"a:; new Late; throw; b:; return; c:; is Late; print; return; handle a b c Error", "1", 0},
		{"a:; new Late; throw; b:; return; c:; is Late; print; return; handle a b c Late", "1", 0},
		{"a:; new Error; throw; b:; return; c:; is Late; print; return; handle a b c Late", "", 0},
		// thrown again within what it handles
		{"push 3; store 0; a:; load 0; print; load 0; zero end; null; hash; pop; b:; end:; return; c:; pop; load 0; push 1; sub; store 0; jump a; handle a b c Error", "3 2 1 0", 0},
		// its edges: From is in it, To is not
		{"nop; a:; null; b:; hash; c:; print; return; d:; pop; push 1; print; return; handle a b d Error", "", api.CodeNull},
		{"nop; a:; null; b:; hash; c:; print; return; d:; pop; push 1; print; return; handle b c d Error", "1", 0},
		{"nop; a:; null; b:; hash; c:; print; return; d:; pop; push 1; print; return; handle c d d Error", "", api.CodeNull},
	} {
		c.try(t, mainOf(c.text), wide())
	}
}

// H6: where a frame has no handler it goes, and it is thrown in the one below, at its OpCall.
func TestThrownThroughFrames(t *testing.T) {
	main := "push 9; a:; push 5; push 7; call Object.sum; b:; print; return; c:; get Error.code; print; handle "
	for _, c := range []struct {
		sum, handle string
		want        []int
		end         int
	}{
		{"push 1; push 0; div; return", "a b c Error", []int{2}, 0},
		{"push 1; push 0; div; return", "b c c Error", nil, 2},
		{"push 1; push 0; div; return", "a b c Late", nil, 2},
		{"a:; push 1; push 0; div; b:; return; c:; pop; push 6; return; handle a b c Error", "a b c Error", []int{6}, 0},
		{"a:; push 1; push 0; div; b:; return; c:; throw; handle a b c Error", "a b c Error", []int{2}, 0},
		{"a:; push 1; push 0; div; b:; return; c:; pop; null; length; return; handle a b c Error", "a b c Error", []int{1}, 0},
		{"load 0; load 1; call Object.sum; return", "a b c Error", []int{7}, 0},
	} {
		l := built(texts("Object.main", main+c.handle+"; return", "Object.sum", c.sum))
		if x := mustRun(t, l, wide()); !slices.Equal(printed(x), c.want) || !slices.Equal(x.Ends, []int{c.end}) {
			t.Errorf("%s, %s: %v", c.sum, c.handle, x)
		}
	}
}

// H5: MaxFrames frames of a thread, and no more.
func TestDeep(t *testing.T) {
	deep := "load 0; print; load 0; push 1; sub; dup; store 0; zero end; load 0; push 0; call Object.sum; pop; end:; push 0; return"
	for _, c := range []shown{
		{"push 7; push 0; call Object.sum; pop; return", "7 6 5 4 3 2 1", 0},
		{"push 8; push 0; call Object.sum; pop; return", "8 7 6 5 4 3 2", api.CodeDeep},
		{"push 7; push 0; call Object.sum; pop; push 7; push 0; call Object.sum; pop; return", "7 6 5 4 3 2 1 7 6 5 4 3 2 1", 0},
	} {
		c.try(t, built(texts("Object.main", c.text, "Object.sum", deep)), wide())
	}
}
