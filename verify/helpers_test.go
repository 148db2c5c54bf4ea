package verify_test

import (
	"slices"
	"testing"

	"cinder/api"
	"cinder/code"
	"cinder/link"
	"cinder/verify"
)

var (
	number   = api.Kind{Kind: api.KindInt}
	row      = api.Kind{Kind: api.KindInts}
	null     = api.Kind{Kind: api.KindNull}
	anything = api.Kind{Kind: api.KindAny}
)

func object(class string) api.Kind { return api.Kind{Kind: api.KindObject, Class: class} }

func objects(class string) api.Kind { return api.Kind{Kind: api.KindObjects, Class: class} }

func kinds(l ...api.Kind) []api.Kind { return l }

// Numbers of the base's classes.
const (
	top = iota
	failure
	node
	leaf
	late
)

// Numbers of Node's methods.
const (
	quiet   = iota // not static, returns nothing
	sum            // not static, a Leaf and a number, returns a number
	spawned        // static, a number and a Node, returns nothing
	maker          // static, returns a Leaf
	tried          // what a test puts there
)

// base: Object: Error: Late; Object: Node: Leaf.
func base() []api.Class {
	back := func(op ...api.Ins) string { return bytes(append(op, api.Ins{Op: api.OpReturn})...) }
	return []api.Class{
		{Name: "Object"},
		{Name: "Error", Super: "Object", Fields: []api.Field{{Name: "code", Kind: number}}},
		{Name: "Node", Super: "Object", Fields: []api.Field{{Name: "val", Kind: number}, {Name: "next", Kind: object("Node")}},
			Methods: []api.Method{
				{Name: "quiet", Locals: 1, Code: back()},
				{Name: "sum", Args: kinds(object("Leaf"), number), Returns: number, Stack: 1, Locals: 3, Code: back(api.Ins{Op: api.OpLoad, A: 2})},
				{Name: "spawned", Static: true, Args: kinds(number, object("Node")), Locals: 2, Code: back()},
				{Name: "maker", Static: true, Returns: object("Leaf"), Stack: 1, Code: back(api.Ins{Op: api.OpNull})},
			}},
		{Name: "Leaf", Super: "Node", Fields: []api.Field{{Name: "more", Kind: row}, {Name: "kids", Kind: objects("Leaf")}}},
		{Name: "Late", Super: "Error"},
	}
}

func mustLink(t *testing.T, l []api.Class) api.Linked {
	t.Helper()
	k, e := link.Link(l)
	if e != api.OK {
		t.Fatalf("Link says %d of %v", e, l)
	}
	return k
}

// with is the base with a method tried of Node.
func with(t *testing.T, m api.Method) api.Linked {
	t.Helper()
	l := base()
	m.Name = "tried"
	l[node].Methods = append(l[node].Methods, m)
	return mustLink(t, l)
}

// try looks at a method of Node, alone and among all.
func try(t *testing.T, m api.Method) ([]api.State, api.Fault) {
	t.Helper()
	k := with(t, m)
	states, f := verify.Method(k, node, tried)
	class, method, all := verify.All(k)
	if all != f || f.Err != api.OK && (class != node || method != tried || len(states) != 0) {
		t.Fatalf("Method says %v, %v; All says %d, %d, %v", states, f, class, method, all)
	}
	return states, f
}

// right has the states of a method without fault.
func right(t *testing.T, m api.Method) []api.State {
	t.Helper()
	states, f := try(t, m)
	if f != (api.Fault{}) {
		t.Fatalf("%x: %v", m.Code, f)
	}
	return states
}

// wrong looks for a fault.
func wrong(t *testing.T, what string, m api.Method, want api.Fault) {
	t.Helper()
	if _, f := try(t, m); f != want {
		t.Errorf("%s: %v, want %v", what, f, want)
	}
}

func same(a, b []api.State) bool {
	return slices.EqualFunc(a, b, func(a, b api.State) bool {
		return a.Comes == b.Comes && slices.Equal(a.Locals, b.Locals) && slices.Equal(a.Stack, b.Stack)
	})
}

func comes(locals, stack []api.Kind) api.State {
	return api.State{Comes: true, Locals: locals, Stack: stack}
}

func op(op int) api.Ins { return api.Ins{Op: op} }

func opA(op, a int) api.Ins { return api.Ins{Op: op, A: a} }

func opB(op, a, b int) api.Ins { return api.Ins{Op: op, A: a, B: b} }

func isBranch(op int) bool { return op >= api.OpJump && op <= api.OpNone }

// laid has each operation where it begins; where to is told by an operation's number.
func laid(l []api.Ins) []api.Ins {
	l = slices.Clone(l)
	var starts []int
	at := 0
	for i := range l {
		l[i].At = at
		starts = append(starts, at)
		probe := l[i]
		probe.At = 0
		s, e := code.Encode([]api.Ins{probe})
		if e != api.OK {
			panic("no operation")
		}
		at += len(s)
	}
	for i, x := range l {
		if isBranch(x.Op) {
			l[i].A = starts[x.A]
		}
	}
	return l
}

func bytes(l ...api.Ins) string {
	s, e := code.Encode(laid(l))
	if e != api.OK {
		panic("no code")
	}
	return s
}

// putting is code that puts kinds onto the stack, of a static method with these arguments, in their places.
func putting(l []api.Kind) []api.Ins {
	var ops []api.Ins
	for i, k := range l {
		switch k {
		case null:
			ops = append(ops, op(api.OpNull))
		case anything:
			n := len(ops)
			ops = append(ops, op(api.OpRead), opA(api.OpZero, n+4), op(api.OpRead), opA(api.OpJump, n+5), op(api.OpNull))
		default:
			ops = append(ops, opA(api.OpLoad, i))
		}
	}
	return ops
}

// taking is a method that puts kinds, and has an operation, and one behind it.
func taking(l []api.Kind, x api.Ins) (api.Method, int) {
	ops := putting(l)
	n := len(ops)
	if isBranch(x.Op) {
		x.A = n
	}
	ops = append(ops, x, op(api.OpReturn))
	m := api.Method{Static: true, Stack: api.MaxStack, Locals: len(l), Code: bytes(ops...)}
	for _, k := range l {
		if k == null || k == anything {
			k = number
		}
		m.Args = append(m.Args, k)
	}
	return m, n
}

// draw: numbers that are the same each time.
type draw uint64

func (d *draw) below(n int) int {
	*d = *d*6364136223846793005 + 1442695040888963407
	return int(uint64(*d) >> 33 % uint64(n))
}

// opAt is the byte at which operation n of a method stands.
func opAt(m api.Method, n int) int {
	l, f := code.Decode(m.Code)
	if f.Err != api.OK {
		panic("no code")
	}
	return l[n].At
}
