package verify_test

import (
	"math"
	"reflect"
	"slices"
	"testing"

	"cinder/api"
	"cinder/verify"
)

// static is a static method of code, with room for all.
func static(locals int, ops ...api.Ins) api.Method {
	return api.Method{Static: true, Stack: api.MaxStack, Locals: locals, Code: bytes(ops...)}
}

func isState(t *testing.T, what string, got, want api.State) {
	t.Helper()
	if !same([]api.State{got}, []api.State{want}) {
		t.Errorf("%s: %v, want %v", what, got, want)
	}
}

// Example 4 of the document.
func TestStatesOfTheExample(t *testing.T) {
	m := static(0, opA(api.OpPush, 7), op(api.OpPrint), op(api.OpReturn))
	want := []api.State{comes(nil, nil), comes(nil, kinds(number)), comes(nil, nil)}
	if got := right(t, m); !same(got, want) {
		t.Errorf("%v, want %v", got, want)
	}
}

// D3: what comes from two sides is joined, local by local and place by place.
func TestWhatComesIsJoined(t *testing.T) {
	m := static(3,
		op(api.OpRead), opA(api.OpZero, 9),
		opA(api.OpNew, leaf), opA(api.OpStore, 0), op(api.OpRead), opA(api.OpStore, 1),
		opA(api.OpNew, late), op(api.OpRead), opA(api.OpJump, 13),
		opA(api.OpNew, node), opA(api.OpStore, 0),
		opA(api.OpNew, failure), op(api.OpNull),
		op(api.OpReturn))
	states := right(t, m)
	isState(t, "one side", states[8], comes(kinds(object("Leaf"), number, anything), kinds(object("Late"), number)))
	isState(t, "both", states[13], comes(kinds(object("Node"), anything, anything), kinds(object("Error"), anything)))
}

// D3: whose state changed is looked at again, and all that comes of it.
func TestWhatChangedIsLookedAtAgain(t *testing.T) {
	m := static(2,
		opA(api.OpNew, leaf), opA(api.OpStore, 0),
		op(api.OpNop), opA(api.OpLoad, 0), opA(api.OpStore, 1),
		opA(api.OpNew, node), opA(api.OpStore, 0), opA(api.OpJump, 2))
	states := right(t, m)
	of := object("Node")
	for n, want := range map[int]api.State{
		2: comes(kinds(of, anything), nil),
		4: comes(kinds(of, anything), kinds(of)),
		5: comes(kinds(of, of), nil),
		7: comes(kinds(of, of), nil),
	} {
		isState(t, "again", states[n], want)
	}
	m = static(1,
		op(api.OpNull),
		op(api.OpDup), op(api.OpLock),
		op(api.OpPop), opA(api.OpNew, late), op(api.OpRead), opA(api.OpZero, 1),
		op(api.OpPop), op(api.OpRead), opA(api.OpJump, 1))
	wrong(t, "what is wrong just when it comes again", m, api.Fault{Err: api.ErrKind, At: opAt(m, 2)})
}

// D3: of those that are to be looked at, the one that stands first is.
func TestFirstOneIsLookedAt(t *testing.T) {
	bad := op(api.OpPop)
	m := static(0, op(api.OpRead), opA(api.OpZero, 3), bad, bad, op(api.OpReturn))
	wrong(t, "behind it", m, api.Fault{Err: api.ErrNone, At: opAt(m, 2)})
	m = static(0, opA(api.OpJump, 2), bad, op(api.OpRead), opA(api.OpZero, 1), bad, op(api.OpReturn))
	wrong(t, "ahead of it", m, api.Fault{Err: api.ErrNone, At: opAt(m, 1)})
	// The loop is gone through until nothing changes, ahead of what stands behind it.
	m = static(1,
		op(api.OpNull), opA(api.OpStore, 0),
		opA(api.OpLoad, 0), op(api.OpLock), op(api.OpRead), opA(api.OpZero, 7), opA(api.OpJump, 8),
		bad,
		op(api.OpRead), opA(api.OpStore, 0), opA(api.OpJump, 2))
	wrong(t, "the first one of two wrong ones", m, api.Fault{Err: api.ErrNone, At: opAt(m, 7)})
}

// D3: of what nobody came to, nothing is there, and it is not looked at.
func TestWhatNobodyComesTo(t *testing.T) {
	m := static(1, opA(api.OpJump, 4), op(api.OpPop), opA(api.OpLoad, 9), opA(api.OpJump, 1), op(api.OpReturn), op(api.OpNop))
	want := []api.State{comes(kinds(anything), nil), {}, {}, {}, comes(kinds(anything), nil), {}}
	if got := right(t, m); !same(got, want) {
		t.Errorf("%v, want %v", got, want)
	}
}

// D3: what comes to a handler: the locals ahead of each operation that it tells of, and of OpStore those behind it.
func TestHandlersAreComeTo(t *testing.T) {
	ops := []api.Ins{
		op(api.OpRead), opA(api.OpStore, 0),
		op(api.OpNull), opA(api.OpStore, 1),
		op(api.OpRead), opA(api.OpStore, 1), op(api.OpReturn),
		op(api.OpNop), op(api.OpReturn)}
	begin := func(n int) int { return laid(ops)[n].At }
	none := api.State{}
	for _, c := range []struct {
		what     string
		from, to int
		want     api.State
	}{
		{"the first one alone", 0, 1, comes(kinds(anything, anything), kinds(object("Late")))},
		{"a store, ahead of it and behind it", 1, 2, comes(kinds(anything, anything), kinds(object("Late")))},
		{"what stands behind a store", 2, 3, comes(kinds(number, anything), kinds(object("Late")))},
		{"a store that changes nothing but anything", 3, 4, comes(kinds(number, anything), kinds(object("Late")))},
		{"behind that", 4, 5, comes(kinds(number, null), kinds(object("Late")))},
		{"a store that changes null to a number", 5, 6, comes(kinds(number, anything), kinds(object("Late")))},
		{"what returns", 6, 7, comes(kinds(number, number), kinds(object("Late")))},
		{"what nobody comes to", 8, 9, none},
	} {
		m := static(2, ops...)
		to := len(m.Code)
		if c.to < len(ops) {
			to = begin(c.to)
		}
		m.Handlers = []api.Handler{{From: begin(c.from), To: to, At: begin(7), Class: "Late"}}
		isState(t, c.what, right(t, m)[7], c.want)
	}
}

// D3: of OpStore both come, and not just what is joined of them: a Leaf ahead of it, a Node behind it.
func TestStoreComesToHandlersTwice(t *testing.T) {
	ops := []api.Ins{
		opA(api.OpNew, leaf), opA(api.OpStore, 0), opA(api.OpNew, node),
		opA(api.OpStore, 0), op(api.OpReturn), op(api.OpReturn)}
	m := static(1, ops...)
	m.Handlers = []api.Handler{{From: opAt(m, 3), To: opAt(m, 4), At: opAt(m, 5), Class: "Error"}}
	isState(t, "both", right(t, m)[5], comes(kinds(object("Node")), kinds(object("Error"))))
	m = static(1, slices.Concat([]api.Ins{op(api.OpNull)}, ops[1:])...)
	m.Handlers = []api.Handler{{From: opAt(m, 3), To: opAt(m, 4), At: opAt(m, 5), Class: "Error"}}
	isState(t, "null, and a Node", right(t, m)[5], comes(kinds(object("Node")), kinds(object("Error"))))
}

// D3: all handlers that tell of an operation are come to, each with its class; two at one place are joined.
func TestEachHandlerIsComeTo(t *testing.T) {
	m := static(0, op(api.OpNop), op(api.OpReturn), op(api.OpReturn), op(api.OpReturn))
	m.Handlers = []api.Handler{
		{From: 0, To: 1, At: 2, Class: "Late"},
		{From: 0, To: 2, At: 3, Class: "Late"},
		{From: 0, To: 1, At: 3, Class: "Error"},
	}
	states := right(t, m)
	isState(t, "one", states[2], comes(nil, kinds(object("Late"))))
	isState(t, "two", states[3], comes(nil, kinds(object("Error"))))
}

// D3: handlers are come to first, and then what stands behind, and then where it goes.
func TestOrderOfWhatIsComeTo(t *testing.T) {
	m := static(0, op(api.OpNop), op(api.OpReturn))
	m.Handlers = []api.Handler{{From: 0, To: 1, At: 1, Class: "Error"}}
	wrong(t, "the handler, and then behind it", m, api.Fault{Err: api.ErrState, At: 1})
	m = static(0, op(api.OpRead), opA(api.OpZero, 2), op(api.OpReturn))
	m.Handlers = []api.Handler{{From: 1, To: 4, At: 0, Class: "Error"}, {From: 1, To: 4, At: 4, Class: "Error"}}
	wrong(t, "the first handler", m, api.Fault{Err: api.ErrState, At: 0})
	m.Handlers = m.Handlers[1:]
	wrong(t, "the second one, and then behind it", m, api.Fault{Err: api.ErrState, At: 4})
}

// D3: what comes back to the operation that is looked at does not change what comes to the others.
func TestHandlerOfItself(t *testing.T) {
	m := static(1, op(api.OpNull), opA(api.OpStore, 0), op(api.OpReturn))
	m.Handlers = []api.Handler{{From: 1, To: 3, At: 1, Class: "Late"}, {From: 1, To: 3, At: 3, Class: "Late"}}
	wrong(t, "lengths", m, api.Fault{Err: api.ErrState, At: 3})
	m.Handlers = m.Handlers[:1]
	late := object("Late")
	want := []api.State{comes(kinds(anything), nil), comes(kinds(anything), kinds(late)), comes(kinds(late), nil)}
	if got := right(t, m); !same(got, want) {
		t.Errorf("%v, want %v", got, want)
	}
}

// D4: numbers of classes and methods.
func TestMethodHasARange(t *testing.T) {
	l := base()
	l[top].Methods = []api.Method{{Name: "main", Static: true, Code: bytes(op(api.OpNop), op(api.OpReturn))}}
	for _, c := range []struct{ class, method, operations int }{{top, 0, 2}, {node, quiet, 1}, {node, maker, 2}} {
		if states, f := verify.Method(mustLink(t, l), c.class, c.method); len(states) != c.operations || f != (api.Fault{}) {
			t.Errorf("%v: %v, %v", c, states, f)
		}
	}
	k := mustLink(t, base())
	for _, x := range [][2]int{{-1, 0}, {5, 0}, {node, -1}, {node, 4}, {top, 0}, {math.MinInt, 0}, {math.MaxInt, 0}, {node, math.MinInt}, {node, math.MaxInt}} {
		if states, f := verify.Method(k, x[0], x[1]); len(states) != 0 || f != (api.Fault{Err: api.ErrRange}) {
			t.Errorf("%v: %v, %v", x, states, f)
		}
	}
}

// D4: Locals must have room for the arguments, and itself.
func TestLocalsHaveRoomForArguments(t *testing.T) {
	for _, c := range []struct {
		static       bool
		args, locals int
		err          api.Errno
	}{
		{true, 0, 0, api.OK}, {true, 2, 2, api.OK}, {true, 2, 3, api.OK}, {true, 2, 1, api.ErrRange}, {true, 1, 0, api.ErrRange},
		{false, 0, 1, api.OK}, {false, 2, 3, api.OK}, {false, 0, 0, api.ErrRange}, {false, 2, 2, api.ErrRange},
	} {
		m := api.Method{Static: c.static, Locals: c.locals, Code: bytes(op(api.OpReturn)), Args: slices.Repeat(kinds(number), c.args)}
		wrong(t, "locals", m, api.Fault{Err: c.err})
	}
}

// D4: faults of Decode, with their bytes.
func TestFaultsOfCode(t *testing.T) {
	for code, want := range map[string]api.Fault{
		"":                 {Err: api.ErrForm},
		"\x00\xff":         {Err: api.ErrKind, At: 1},
		"\x00\x00\x01\x00": {Err: api.ErrForm, At: 2},
		"\x00\x0d\x00\x02": {Err: api.ErrRange, At: 1},
	} {
		wrong(t, "code", api.Method{Static: true, Code: code}, want)
	}
}

// D4: where handlers must begin and end, and of which classes they must be.
func TestHandlersMustBeRight(t *testing.T) {
	m := static(0, op(api.OpRead), op(api.OpPrint), opA(api.OpJump, 0), op(api.OpNop), op(api.OpPop), op(api.OpReturn))
	const jump, behind, handler, end = 2, 5, 6, 8
	for _, c := range []struct {
		what string
		h    api.Handler
		err  api.Errno
	}{
		{"right", api.Handler{From: 0, To: jump, At: handler, Class: "Error"}, api.OK},
		{"up to the end, and of itself", api.Handler{From: jump, To: end, At: handler, Class: "Late"}, api.OK},
		{"of what nobody comes to, up to the end", api.Handler{From: behind, To: end, At: handler, Class: "Late"}, api.OK},
		{"up to itself", api.Handler{From: 1, To: 1, At: handler, Class: "Error"}, api.ErrRange},
		{"backwards", api.Handler{From: jump, To: 1, At: handler, Class: "Error"}, api.ErrRange},
		{"from within", api.Handler{From: jump + 1, To: behind, At: handler, Class: "Error"}, api.ErrRange},
		{"up to within", api.Handler{From: 0, To: jump + 1, At: handler, Class: "Error"}, api.ErrRange},
		{"up to beyond the end", api.Handler{From: 0, To: end + 1, At: handler, Class: "Error"}, api.ErrRange},
		{"at within", api.Handler{From: 0, To: 1, At: jump + 1, Class: "Error"}, api.ErrRange},
		{"at the end", api.Handler{From: 0, To: 1, At: end, Class: "Error"}, api.ErrRange},
		{"from the end", api.Handler{From: end, To: end + 1, At: handler, Class: "Error"}, api.ErrRange},
		{"of TopClass", api.Handler{From: 0, To: 1, At: handler, Class: "Object"}, api.ErrKind},
		{"of another class", api.Handler{From: 0, To: 1, At: handler, Class: "Node"}, api.ErrKind},
		{"of another class, and backwards", api.Handler{From: 1, To: 0, At: handler, Class: "Node"}, api.ErrRange},
	} {
		m.Handlers = []api.Handler{c.h}
		wrong(t, c.what, m, api.Fault{Err: c.err})
	}
}

// D4: faults in their order: of locals, of code, handler by handler, and then of operations.
func TestFirstFaultOfAMethod(t *testing.T) {
	right := api.Handler{From: 0, To: 1, At: 1, Class: "Error"}
	backwards, other := right, right
	backwards.From, other.Class = 1, "Node"
	m := api.Method{Static: true, Stack: 1, Locals: 1, Code: "\x05\x1b", Args: kinds(number)}
	wrong(t, "operation", m, api.Fault{Err: api.ErrNone})
	m.Handlers = []api.Handler{right, other, backwards}
	wrong(t, "the second handler", m, api.Fault{Err: api.ErrKind})
	m.Handlers = []api.Handler{backwards, other}
	wrong(t, "the first handler", m, api.Fault{Err: api.ErrRange})
	m.Code = "\x05\x1b\xff"
	wrong(t, "code", m, api.Fault{Err: api.ErrKind, At: 2})
	m.Locals = 0
	wrong(t, "locals", m, api.Fault{Err: api.ErrRange})
}

// D4: ErrForm at the operation from which something comes to behind the last one.
func TestNothingComesBehindTheLastOne(t *testing.T) {
	for _, c := range []struct {
		what string
		ops  []api.Ins
		err  api.Errno
	}{
		{"nop", []api.Ins{op(api.OpNop), op(api.OpNop)}, api.ErrForm},
		{"zero", []api.Ins{op(api.OpRead), opA(api.OpZero, 0)}, api.ErrForm},
		{"call", []api.Ins{op(api.OpNop), opB(api.OpCall, node, maker)}, api.ErrForm},
		{"jump", []api.Ins{op(api.OpNop), opA(api.OpJump, 0)}, api.OK},
		{"return", []api.Ins{op(api.OpNop), op(api.OpReturn)}, api.OK},
		{"throw", []api.Ins{op(api.OpNull), op(api.OpThrow)}, api.OK},
	} {
		want := api.Fault{Err: c.err}
		if c.err != api.OK {
			want.At = 1
		}
		wrong(t, c.what, static(0, c.ops...), want)
	}
	m := static(0, op(api.OpNop), op(api.OpNull))
	m.Stack = 0
	wrong(t, "and no room", m, api.Fault{Err: api.ErrMany, At: 1})
	m = static(0, op(api.OpNop), op(api.OpNop))
	m.Handlers = []api.Handler{{From: 1, To: 2, At: 0, Class: "Error"}}
	wrong(t, "and another stack at a handler", m, api.Fault{Err: api.ErrForm, At: 1})
}

// D4: ErrState at the byte to which stacks of two lengths come.
func TestStacksAreOfOneLength(t *testing.T) {
	m := static(0, op(api.OpNop), op(api.OpNull), opA(api.OpJump, 1))
	wrong(t, "it grows", m, api.Fault{Err: api.ErrState, At: 1})
	m = static(0, op(api.OpNull), op(api.OpNull), op(api.OpPop), opA(api.OpJump, 1))
	wrong(t, "it grows, and is as it was", m, api.Fault{})
	m = static(0, op(api.OpNull), op(api.OpNop), op(api.OpPop), op(api.OpNull), opA(api.OpJump, 1))
	wrong(t, "it is as it was", m, api.Fault{})
	m = static(0, op(api.OpRead), opA(api.OpZero, 3), op(api.OpNull), op(api.OpReturn))
	wrong(t, "two sides", m, api.Fault{Err: api.ErrState, At: opAt(m, 3)})
}

// D4: ErrMany at a handler, if there is no room for its stack; ErrState ahead of it, if it is known there.
func TestHandlersHaveRoom(t *testing.T) {
	m := static(0, op(api.OpNop), op(api.OpReturn), op(api.OpReturn))
	m.Handlers = []api.Handler{{From: 0, To: 1, At: 2, Class: "Error"}}
	m.Stack = 1
	wrong(t, "room", m, api.Fault{})
	m.Stack = 0
	wrong(t, "no room", m, api.Fault{Err: api.ErrMany, At: 2})
	m.Code = bytes(op(api.OpNop), op(api.OpReturn), op(api.OpPop), op(api.OpReturn))
	wrong(t, "no room, though it is taken at once", m, api.Fault{Err: api.ErrMany, At: 2})
	m.Code = bytes(op(api.OpNop), op(api.OpPop), op(api.OpReturn))
	wrong(t, "no room, told ahead of what stands behind it", m, api.Fault{Err: api.ErrMany, At: 2})
	m.Code = bytes(op(api.OpNop), op(api.OpReturn), op(api.OpReturn))
	m.Handlers[0].From, m.Handlers[0].To = 2, 3
	wrong(t, "nobody comes there", m, api.Fault{})
	m.Handlers[0] = api.Handler{From: 1, To: 2, At: 0, Class: "Error"}
	wrong(t, "known there", m, api.Fault{Err: api.ErrState, At: 0})
}

// D5: the first class and method that has a fault.
func TestAllTellsTheFirstOne(t *testing.T) {
	l := base()
	if a, b, f := verify.All(mustLink(t, l)); a != 0 || b != 0 || f != (api.Fault{}) {
		t.Errorf("all right: %d, %d, %v", a, b, f)
	}
	bad := func(name string, code ...api.Ins) api.Method {
		return api.Method{Name: name, Static: true, Code: bytes(code...)}
	}
	l[late].Methods = []api.Method{bad("first", op(api.OpReturn)), bad("second", op(api.OpPop), op(api.OpReturn))}
	if a, b, f := verify.All(mustLink(t, l)); a != late || b != 1 || f != (api.Fault{Err: api.ErrNone}) {
		t.Errorf("the last one: %d, %d, %v", a, b, f)
	}
	l[node].Methods[spawned].Code = bytes(op(api.OpNop), op(api.OpNop))
	l[node].Methods[maker].Code = ""
	if a, b, f := verify.All(mustLink(t, l)); a != node || b != spawned || f != (api.Fault{Err: api.ErrForm, At: 1}) {
		t.Errorf("one ahead of it: %d, %d, %v", a, b, f)
	}
	l[top].Methods = []api.Method{bad("upper", op(api.OpAdd))}
	if a, b, f := verify.All(mustLink(t, l)); a != top || b != 0 || f != (api.Fault{Err: api.ErrNone}) {
		t.Errorf("the first one: %d, %d, %v", a, b, f)
	}
}

// P1: any code, and any handlers.
func TestMethodEndsWhateverItIsHanded(t *testing.T) {
	d := draw(3)
	for range 3000 {
		b := make([]byte, d.below(60))
		for i := range b {
			b[i] = byte(d.below(1 + d.below(40)))
		}
		m := api.Method{Static: d.below(2) == 0, Stack: d.below(4), Locals: d.below(5), Code: string(b)}
		for range d.below(3) {
			m.Handlers = append(m.Handlers, api.Handler{From: d.below(9), To: d.below(9), At: d.below(9), Class: "Error"})
		}
		try(t, m)
	}
}

// P1: the longest code, in which each operation is looked at again and again.
func TestLongCodeEnds(t *testing.T) {
	const locals = api.MaxLocals
	var ops []api.Ins
	for i := range locals {
		ops = append(ops, op(api.OpNull), opA(api.OpStore, i))
	}
	head := len(ops)
	for i := range locals - 1 {
		ops = append(ops, opA(api.OpLoad, i), opA(api.OpStore, i+1))
	}
	ops = append(ops, opA(api.OpNew, leaf), opA(api.OpStore, 0), op(api.OpRead), opA(api.OpZero, head))
	ops = append(ops, opA(api.OpNew, node), opA(api.OpStore, 0), op(api.OpRead), opA(api.OpZero, head))
	ops = append(ops, opA(api.OpNew, late), opA(api.OpStore, 0), opA(api.OpJump, head))
	states := right(t, static(locals, ops...))
	isState(t, "in the end", states[head], comes(slices.Repeat(kinds(object("Object")), locals), nil))
}

// P2: what is handed in is as it was, and is not in the answer.
func TestHandedInIsOnlyRead(t *testing.T) {
	m := static(3, opA(api.OpLoad, 0), opA(api.OpStore, 2), op(api.OpReturn), op(api.OpReturn))
	args := kinds(number, row, anything)
	m.Args = args[:2]
	m.Handlers = []api.Handler{{From: 0, To: 4, At: opAt(m, 3), Class: "Error"}}
	k, kept := with(t, m), with(t, m)
	k.Classes[node].Methods[tried].Args = args[:2]
	states, f := verify.Method(k, node, tried)
	if f.Err != api.OK || args[2] != anything {
		t.Fatalf("%v, and behind the arguments %v", f, args[2])
	}
	verify.All(k)
	verify.Fits(k, null, number)
	verify.Join(k, null, number)
	if !reflect.DeepEqual(k, kept) {
		t.Errorf("it is %v, was %v", k, kept)
	}
	clear(args)
	if states[0].Locals[0] != number {
		t.Errorf("a later change is seen: %v", states)
	}
}

// P2: no two lists of states share memory.
func TestStatesShareNothing(t *testing.T) {
	m := static(2, op(api.OpNull), op(api.OpDup), op(api.OpNop), opA(api.OpStore, 0), op(api.OpRead), opA(api.OpZero, 7), op(api.OpNop), op(api.OpReturn), op(api.OpReturn))
	m.Handlers = []api.Handler{{From: 0, To: 3, At: opAt(m, 8), Class: "Error"}}
	want, states := right(t, m), right(t, m)
	for i := range states {
		_ = append(states[i].Locals, anything)
		_ = append(states[i].Stack, anything, anything)
	}
	if !same(states, want) {
		t.Errorf("lists share their spare room: %v", states)
	}
	for i := range states {
		clear(states[i].Locals)
		clear(states[i].Stack)
		states[i] = want[i]
		if !same(states, want) {
			t.Fatalf("those of %d are shared: %v", i, states)
		}
	}
}

// P3: the same each time.
func TestMethodAnswersTheSame(t *testing.T) {
	m := static(1, opA(api.OpNew, leaf), opA(api.OpStore, 0), opA(api.OpNew, late), opA(api.OpStore, 0), opA(api.OpJump, 2))
	m.Handlers = []api.Handler{{From: 0, To: 4, At: opAt(m, 1), Class: "Late"}}
	want := right(t, m)
	for range 10 {
		if got := right(t, m); !same(got, want) {
			t.Fatalf("%v, and then %v", want, got)
		}
	}
}
