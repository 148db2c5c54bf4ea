package verify_test

import (
	"slices"
	"testing"

	"cinder/api"
)

// effect is what an operation takes, and what it leaves of just that.
type effect struct {
	what   string
	ins    api.Ins
	takes  []api.Kind
	leaves []api.Kind
}

// effects is the document's table: with kinds that are the same as what is told, and with others that fit.
func effects() []effect {
	thing, of := object("Object"), object("Node")
	return []effect{
		{"nop", op(api.OpNop), nil, nil},
		{"push", opA(api.OpPush, -2), nil, kinds(number)},
		{"null", op(api.OpNull), nil, kinds(null)},
		{"pop", op(api.OpPop), kinds(number), nil},
		{"pop of anything", op(api.OpPop), kinds(anything), nil},
		{"dup", op(api.OpDup), kinds(row), kinds(row, row)},
		{"dup of anything", op(api.OpDup), kinds(anything), kinds(anything, anything)},
		{"swap", op(api.OpSwap), kinds(number, of), kinds(of, number)},
		{"swap of anything", op(api.OpSwap), kinds(anything, null), kinds(null, anything)},
		{"swap with anything", op(api.OpSwap), kinds(null, anything), kinds(anything, null)},
		{"add", op(api.OpAdd), kinds(number, number), kinds(number)},
		{"sub", op(api.OpSub), kinds(number, number), kinds(number)},
		{"mul", op(api.OpMul), kinds(number, number), kinds(number)},
		{"div", op(api.OpDiv), kinds(number, number), kinds(number)},
		{"rem", op(api.OpRem), kinds(number, number), kinds(number)},
		{"new", opA(api.OpNew, leaf), nil, kinds(object("Leaf"))},
		{"new of the last class", opA(api.OpNew, late), nil, kinds(object("Late"))},
		{"get a number", opB(api.OpGet, node, 0), kinds(of), kinds(number)},
		{"get a Node", opB(api.OpGet, node, 1), kinds(object("Leaf")), kinds(of)},
		{"get from above", opB(api.OpGet, leaf, 1), kinds(object("Leaf")), kinds(of)},
		{"get the last one", opB(api.OpGet, leaf, 3), kinds(object("Leaf")), kinds(objects("Leaf"))},
		{"get of null", opB(api.OpGet, leaf, 2), kinds(null), kinds(row)},
		{"put a number", opB(api.OpPut, node, 0), kinds(of, number), nil},
		{"put a Leaf", opB(api.OpPut, node, 1), kinds(object("Leaf"), object("Leaf")), nil},
		{"put null", opB(api.OpPut, leaf, 3), kinds(object("Leaf"), null), nil},
		{"put into null", opB(api.OpPut, leaf, 2), kinds(null, row), nil},
		{"ints", op(api.OpInts), kinds(number), kinds(row)},
		{"objects", opA(api.OpObjects, leaf), kinds(number), kinds(objects("Leaf"))},
		{"at of numbers", op(api.OpAt), kinds(row, number), kinds(number)},
		{"at of objects", op(api.OpAt), kinds(objects("Leaf"), number), kinds(object("Leaf"))},
		{"at of null", op(api.OpAt), kinds(null, number), kinds(null)},
		{"set a number", op(api.OpSet), kinds(row, number, number), nil},
		{"set an object", op(api.OpSet), kinds(objects("Node"), number, of), nil},
		{"set one under it", op(api.OpSet), kinds(objects("Node"), number, object("Leaf")), nil},
		{"set null", op(api.OpSet), kinds(objects("Node"), number, null), nil},
		{"set a row", op(api.OpSet), kinds(objects("Object"), number, row), nil},
		{"set a number in null", op(api.OpSet), kinds(null, number, number), nil},
		{"set an object in null", op(api.OpSet), kinds(null, number, of), nil},
		{"set null in null", op(api.OpSet), kinds(null, number, null), nil},
		{"length of numbers", op(api.OpLength), kinds(row), kinds(number)},
		{"length of objects", op(api.OpLength), kinds(objects("Node")), kinds(number)},
		{"length of null", op(api.OpLength), kinds(null), kinds(number)},
		{"call", opB(api.OpCall, node, quiet), kinds(object("Leaf")), nil},
		{"call of null", opB(api.OpCall, node, quiet), kinds(null), nil},
		{"call with arguments", opB(api.OpCall, node, sum), kinds(of, object("Leaf"), number), kinds(number)},
		{"call of a static one", opB(api.OpCall, node, maker), nil, kinds(object("Leaf"))},
		{"call of a static one with arguments", opB(api.OpCall, node, spawned), kinds(number, object("Leaf")), nil},
		{"is", opA(api.OpIs, node), kinds(thing), kinds(number)},
		{"is of a row", opA(api.OpIs, node), kinds(row), kinds(number)},
		{"cast", opA(api.OpCast, leaf), kinds(of), kinds(object("Leaf"))},
		{"cast of another one", opA(api.OpCast, late), kinds(objects("Node")), kinds(object("Late"))},
		{"cast of null", opA(api.OpCast, late), kinds(null), kinds(object("Late"))},
		{"print", op(api.OpPrint), kinds(number), nil},
		{"read", op(api.OpRead), nil, kinds(number)},
		{"hash", op(api.OpHash), kinds(row), kinds(number)},
		{"spawn", opB(api.OpSpawn, node, spawned), kinds(number, object("Leaf")), nil},
		{"lock", op(api.OpLock), kinds(of), nil},
		{"unlock", op(api.OpUnlock), kinds(objects("Leaf")), nil},
		{"lock null", op(api.OpLock), kinds(null), nil},
	}
}

// branches: what they take; they leave nothing.
func branches() []effect {
	thing := object("Object")
	return []effect{
		{"zero", op(api.OpZero), kinds(number), nil},
		{"less", op(api.OpLess), kinds(number, number), nil},
		{"same", op(api.OpSame), kinds(thing, object("Leaf")), nil},
		{"same of null and a row", op(api.OpSame), kinds(null, row), nil},
		{"none", op(api.OpNone), kinds(thing), nil},
		{"none of null", op(api.OpNone), kinds(null), nil},
		{"none of a row", op(api.OpNone), kinds(objects("Leaf")), nil},
	}
}

// branching is a method that puts kinds, and then goes to its end, or to what stands ahead of that.
func branching(e effect) (api.Method, int) {
	m, n := taking(e.takes, op(api.OpNop))
	ops := putting(e.takes)
	e.ins.A = n + 2
	m.Code = bytes(append(ops, e.ins, op(api.OpNop), op(api.OpReturn))...)
	return m, n
}

// D2: what each operation takes, it leaves as told.
func TestOperationsTakeAndPut(t *testing.T) {
	for _, e := range effects() {
		m, n := taking(e.takes, e.ins)
		states := right(t, m)
		if got := states[n].Stack; !slices.Equal(got, e.takes) {
			t.Errorf("%s: ahead of it %v, want %v", e.what, got, e.takes)
		}
		if got := states[n+1].Stack; !slices.Equal(got, e.leaves) {
			t.Errorf("%s: behind it %v, want %v", e.what, got, e.leaves)
		}
		if !slices.Equal(states[n].Locals, states[n+1].Locals) {
			t.Errorf("%s: locals %v, %v", e.what, states[n].Locals, states[n+1].Locals)
		}
	}
	for _, e := range branches() {
		m, n := branching(e)
		states := right(t, m)
		for _, i := range []int{n + 1, n + 2} {
			if s := states[i]; !s.Comes || len(s.Stack) != 0 {
				t.Errorf("%s: at %d %v", e.what, i, s)
			}
		}
	}
}

// D2: what stands below what is taken stays.
func TestWhatIsBelowStays(t *testing.T) {
	for _, e := range effects() {
		if len(e.takes) == 4 {
			continue
		}
		m, n := taking(append(kinds(objects("Late")), e.takes...), e.ins)
		want := append(kinds(objects("Late")), e.leaves...)
		if got := right(t, m)[n+1].Stack; !slices.Equal(got, want) {
			t.Errorf("%s: %v, want %v", e.what, got, want)
		}
	}
}

// D4: ErrNone, if the stack has too little, whatever else it has.
func TestStackHasTooLittle(t *testing.T) {
	for _, e := range append(effects(), branches()...) {
		for n := range e.takes {
			have := slices.Clone(e.takes[len(e.takes)-n:])
			m, i := taking(have, e.ins)
			wrong(t, e.what, m, api.Fault{Err: api.ErrNone, At: opAt(m, i)})
			for j := range have {
				have[j] = anything
			}
			m, i = taking(have, e.ins)
			wrong(t, e.what+": and nothing that fits", m, api.Fault{Err: api.ErrNone, At: opAt(m, i)})
		}
	}
}

// D4: ErrKind, if one of what is taken does not fit.
func TestTakenMustFit(t *testing.T) {
	k := mustLink(t, base())
	told := map[string][]api.Kind{
		"add": kinds(number, number), "sub": kinds(number, number), "mul": kinds(number, number), "div": kinds(number, number), "rem": kinds(number, number),
		"zero": kinds(number), "less": kinds(number, number), "same": kinds(object("Object"), object("Object")), "none": kinds(object("Object")),
		"get a number": kinds(object("Node")), "get from above": kinds(object("Leaf")),
		"put a number": kinds(object("Node"), number), "put a Leaf": kinds(object("Node"), object("Node")), "put null": kinds(object("Leaf"), objects("Leaf")), "put into null": kinds(object("Leaf"), row),
		"ints": kinds(number), "objects": kinds(number), "at of numbers": kinds(anything, number), "set a number": kinds(anything, number, number),
		"set one under it": kinds(anything, number, object("Node")), "set a row": kinds(anything, number, object("Object")),
		"call": kinds(object("Node")), "call with arguments": kinds(object("Node"), object("Leaf"), number),
		"call of a static one with arguments": kinds(number, object("Node")), "spawn": kinds(number, object("Node")),
		"is": kinds(object("Object")), "cast": kinds(object("Object")), "hash": kinds(object("Object")), "lock": kinds(object("Object")), "unlock": kinds(object("Object")),
		"print": kinds(number),
	}
	seen := 0
	for _, e := range append(effects(), branches()...) {
		asked := told[e.what]
		for i := range asked {
			if asked[i] == anything {
				continue
			}
			for _, a := range everyKind() {
				have := slices.Clone(e.takes)
				have[i] = a
				m, n := taking(have, e.ins)
				if isBranch(e.ins.Op) {
					m, n = branching(effect{e.what, e.ins, have, nil})
				}
				want := api.Fault{Err: api.ErrKind, At: opAt(m, n)}
				if mustFit(t, k, a, asked[i]) {
					want = api.Fault{}
				}
				wrong(t, e.what, m, want)
				seen++
			}
		}
	}
	if seen < 14*40 {
		t.Errorf("just %d were looked at", seen)
	}
}

// D2, D4: rows are asked by their kinds, whatever these fit.
func TestRowsAreAskedByKinds(t *testing.T) {
	isRow := func(a api.Kind) bool { return a == row || a == null || a.Kind == api.KindObjects }
	for _, a := range everyKind() {
		for what, ask := range map[string]struct {
			ins  api.Ins
			have []api.Kind
		}{
			"at":     {op(api.OpAt), kinds(a, number)},
			"set":    {op(api.OpSet), kinds(a, number, null)},
			"length": {op(api.OpLength), kinds(a)},
		} {
			m, n := taking(ask.have, ask.ins)
			want := api.Fault{Err: api.ErrKind, At: opAt(m, n)}
			if isRow(a) && !(what == "set" && a == row) {
				want = api.Fault{}
			}
			wrong(t, what, m, want)
		}
		m, n := taking(kinds(null, number, a), op(api.OpSet))
		want := api.Fault{}
		if a == anything {
			want = api.Fault{Err: api.ErrKind, At: opAt(m, n)}
		}
		wrong(t, "set in null", m, want)
	}
}

// D2, D4: OpLoad and OpStore.
func TestLocals(t *testing.T) {
	m := api.Method{Args: kinds(number), Stack: 1, Locals: 4, Code: bytes(
		opA(api.OpLoad, 0), opA(api.OpStore, 3), opA(api.OpLoad, 1), opA(api.OpStore, 0), opA(api.OpLoad, 3), op(api.OpReturn))}
	of := object("Node")
	first, second, third := kinds(of, number, anything, anything), kinds(of, number, anything, of), kinds(number, number, anything, of)
	want := []api.State{
		comes(first, nil), comes(first, kinds(of)), comes(second, nil), comes(second, kinds(number)), comes(third, nil), comes(third, kinds(of)),
	}
	if got := right(t, m); !same(got, want) {
		t.Errorf("%v\nwant %v", got, want)
	}
	m.Code = bytes(op(api.OpNop), opA(api.OpLoad, 2), op(api.OpReturn))
	wrong(t, "load of what nothing was put into", m, api.Fault{Err: api.ErrKind, At: 1})
	m.Code = bytes(op(api.OpNop), opA(api.OpLoad, 4), op(api.OpReturn))
	wrong(t, "load of no local", m, api.Fault{Err: api.ErrRange, At: 1})
	m.Code = bytes(op(api.OpNull), opA(api.OpStore, 4), op(api.OpReturn))
	wrong(t, "store into no local", m, api.Fault{Err: api.ErrRange, At: 1})
	m.Code = bytes(opA(api.OpStore, 0), op(api.OpReturn))
	wrong(t, "store of nothing", m, api.Fault{Err: api.ErrNone})
	m = api.Method{Static: true, Stack: 1, Locals: 1, Code: bytes(append(putting(kinds(anything)), opA(api.OpStore, 0), op(api.OpReturn))...)}
	if got := right(t, m); !slices.Equal(got[6].Locals, kinds(anything)) {
		t.Errorf("store of anything: %v", got)
	}
}

// D2: a static method has no object of its class ahead.
func TestMethodsBegin(t *testing.T) {
	args := kinds(row, objects("Late"))
	m := api.Method{Args: args, Locals: 4, Code: bytes(op(api.OpReturn))}
	if got, want := right(t, m), []api.State{comes(append(kinds(object("Node")), append(args, anything)...), nil)}; !same(got, want) {
		t.Errorf("%v, want %v", got, want)
	}
	m.Static = true
	if got, want := right(t, m), []api.State{comes(append(args, anything, anything), nil)}; !same(got, want) {
		t.Errorf("static: %v, want %v", got, want)
	}
}

// D2, D4: OpReturn takes what the method returns, if something; what is below it does not matter.
func TestReturn(t *testing.T) {
	for _, c := range []struct {
		what    string
		have    []api.Kind
		returns api.Kind
		err     api.Errno
	}{
		{"nothing", nil, api.Kind{}, api.OK},
		{"nothing, with something there", kinds(anything), api.Kind{}, api.OK},
		{"a number", kinds(number), number, api.OK},
		{"a number, with something below", kinds(row, number), number, api.OK},
		{"one under it", kinds(object("Leaf")), object("Node"), api.OK},
		{"null", kinds(null), objects("Node"), api.OK},
		{"one above it", kinds(object("Node")), object("Leaf"), api.ErrKind},
		{"another row", kinds(objects("Leaf")), objects("Node"), api.ErrKind},
		{"a number below", kinds(number, row), number, api.ErrKind},
		{"too little", nil, number, api.ErrNone},
	} {
		m, n := taking(c.have, op(api.OpReturn))
		m.Returns = c.returns
		want := api.Fault{Err: c.err}
		if c.err != api.OK {
			want.At = opAt(m, n)
		}
		wrong(t, c.what, m, want)
	}
}

// D2, D4: OpThrow takes an object's of ErrorClass; nothing comes behind it.
func TestThrow(t *testing.T) {
	k := mustLink(t, base())
	for _, a := range everyKind() {
		m, n := taking(kinds(a), op(api.OpThrow))
		want := api.Fault{Err: api.ErrKind, At: opAt(m, n)}
		if mustFit(t, k, a, object("Error")) {
			want = api.Fault{}
			if s := right(t, m)[n+1]; s.Comes || len(s.Locals) != 0 || len(s.Stack) != 0 {
				t.Errorf("behind it: %v", s)
			}
		}
		wrong(t, "throw", m, want)
	}
	m, _ := taking(nil, op(api.OpThrow))
	wrong(t, "throw of nothing", m, api.Fault{Err: api.ErrNone})
}

// D4: ErrRange, if a class, a field or a method is none, ahead of all that is wrong with the stack.
func TestToldOfMustBe(t *testing.T) {
	const none = late + 1
	for _, x := range []api.Ins{
		opA(api.OpLoad, 1), opA(api.OpStore, 1), opA(api.OpLoad, 255),
		opA(api.OpNew, none), opA(api.OpNew, 255), opA(api.OpObjects, none), opA(api.OpIs, none), opA(api.OpCast, none),
		opB(api.OpGet, none, 0), opB(api.OpGet, node, 2), opB(api.OpGet, top, 0), opB(api.OpGet, leaf, 4),
		opB(api.OpPut, none, 0), opB(api.OpPut, node, 2), opB(api.OpPut, leaf, 4),
		opB(api.OpCall, none, 0), opB(api.OpCall, node, tried+1), opB(api.OpCall, leaf, 0), opB(api.OpCall, top, 0),
		opB(api.OpSpawn, none, 0), opB(api.OpSpawn, node, tried+1), opB(api.OpSpawn, leaf, 0),
	} {
		m := api.Method{Static: true, Locals: 1, Code: bytes(op(api.OpNop), x, op(api.OpReturn))}
		wrong(t, "none is told of", m, api.Fault{Err: api.ErrRange, At: 1})
	}
}

// D4: ErrKind, if a method of OpSpawn is not static, or returns something, ahead of all that is wrong with the stack.
func TestSpawnedMustBeStaticAndReturnNothing(t *testing.T) {
	for _, method := range []int{quiet, sum, maker} {
		m := api.Method{Static: true, Code: bytes(op(api.OpNop), opB(api.OpSpawn, node, method), op(api.OpReturn))}
		wrong(t, "spawn", m, api.Fault{Err: api.ErrKind, At: 1})
	}
	m := api.Method{Static: true, Code: bytes(op(api.OpNop), opB(api.OpSpawn, node, spawned), op(api.OpReturn))}
	wrong(t, "spawn without arguments", m, api.Fault{Err: api.ErrNone, At: 1})
}

// D4: ErrMany, if the stack would have more than Stack behind it, and not while it is at it.
func TestStackHasRoom(t *testing.T) {
	for _, e := range append(effects(), branches()...) {
		m, n := taking(e.takes, e.ins)
		if isBranch(e.ins.Op) {
			m, n = branching(e)
		}
		most := max(len(e.takes), len(e.leaves))
		if slices.Contains(e.takes, anything) {
			most = max(most, 1)
		}
		m.Stack = most
		wrong(t, e.what, m, api.Fault{})
		if len(e.leaves) > len(e.takes) {
			m.Stack = most - 1
			wrong(t, e.what, m, api.Fault{Err: api.ErrMany, At: opAt(m, n)})
		}
	}
	m := api.Method{Static: true, Stack: 0, Locals: 1, Code: bytes(opA(api.OpLoad, 0), op(api.OpReturn))}
	wrong(t, "of anything, and no room", m, api.Fault{Err: api.ErrKind})
}
