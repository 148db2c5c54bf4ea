package run_test

import (
	"slices"
	"strconv"
	"strings"
	"testing"

	"cinder/api"
	"cinder/code"
	"cinder/run"
)

var (
	number = api.Kind{Kind: api.KindInt}
	ints   = api.Kind{Kind: api.KindInts}
)

func object(class string) api.Kind { return api.Kind{Kind: api.KindObject, Class: class} }

func objects(class string) api.Kind { return api.Kind{Kind: api.KindObjects, Class: class} }

func fields(l ...api.Field) []api.Field { return l }

func field(name string, k api.Kind) api.Field { return api.Field{Name: name, Kind: k} }

// base: Object: Error: Late; Object: Node: Leaf. Its methods have no code yet.
func base() []api.Class {
	method := func(name string, static bool, returns api.Kind, args ...api.Kind) api.Method {
		return api.Method{Name: name, Static: static, Args: args, Returns: returns, Stack: api.MaxStack, Locals: api.MaxLocals}
	}
	none := api.Kind{}
	return []api.Class{
		{Name: "Object", Methods: []api.Method{
			method("main", true, none), method("work", true, none, object("Node"), number), method("self", false, number), method("sum", true, number, number, number), method("give", true, object("Node"), object("Node"))}},
		{Name: "Error", Super: "Object", Fields: fields(field("code", number))},
		{Name: "Node", Super: "Object", Fields: fields(field("val", number), field("next", object("Node")), field("row", ints), field("kids", objects("Node")), field("any", object("Object"))),
			Methods: []api.Method{method("calc", false, number, number, number), method("self", false, number)}},
		{Name: "Leaf", Super: "Node", Fields: fields(field("more", number)), Methods: []api.Method{method("calc", false, number, number, number)}},
		{Name: "Late", Super: "Error", Fields: fields(field("why", object("Node")))},
	}
}

// texts of methods that a test says nothing of.
func plain() map[string]string {
	return map[string]string{
		"Object.main": "return", "Object.work": "return", "Object.self": "push 1; return", "Object.sum": "load 0; load 1; add; return", "Object.give": "load 0; return",
		"Node.calc": "load 1; load 2; sub; return", "Node.self": "push 2; return", "Leaf.calc": "load 0; get Leaf.more; return",
	}
}

// texts has what a test says of methods, by their names, each ahead of its text.
func texts(l ...string) map[string]string {
	m := plain()
	for i := 0; i < len(l); i += 2 {
		if _, ok := m[l[i]]; !ok {
			panic("no method " + l[i])
		}
		m[l[i]] = l[i+1]
	}
	return m
}

// built has the base's methods with these texts.
func built(texts map[string]string) []api.Class { return builtOf(base(), texts) }

func builtOf(l []api.Class, texts map[string]string) []api.Class {
	for i, c := range l {
		for j, m := range c.Methods {
			l[i].Methods[j].Code, l[i].Methods[j].Handlers = assemble(l, texts[c.Name+"."+m.Name])
		}
	}
	return l
}

// mainOf has main alone with a text.
func mainOf(text string) []api.Class { return built(texts("Object.main", text)) }

// assemble a text: operations by their names, a label with a colon, `handle from to at class` by labels.
func assemble(l []api.Class, text string) (string, []api.Handler) {
	names := strings.Fields("nop push null load store pop dup swap add sub mul div rem jump zero less same none new get put ints objects at set length call return throw is cast print read hash spawn lock unlock")
	labels := map[string]int{}
	var ops []api.Ins
	var goes, handles [][]string // operations' words; handlers' words
	at := 0
	for _, part := range strings.FieldsFunc(text, func(r rune) bool { return r == ';' || r == '\n' }) {
		w := strings.Fields(part)
		if len(w) == 0 {
			continue
		}
		if w[0] == "handle" {
			handles = append(handles, w)
			continue
		}
		if s, ok := strings.CutSuffix(w[0], ":"); ok {
			labels[s] = at
			continue
		}
		x := api.Ins{At: at, Op: slices.Index(names, w[0])}
		if x.Op < 0 {
			panic("no operation " + part)
		}
		ops, goes = append(ops, x), append(goes, w)
		at += len(mustEncode(api.Ins{Op: x.Op}))
	}
	for i, w := range goes {
		if len(w) > 1 {
			ops[i].A, ops[i].B = argument(l, labels, ops[i].Op, w[1])
		}
	}
	var handlers []api.Handler
	for _, w := range handles {
		handlers = append(handlers, api.Handler{From: labelled(labels, w[1]), To: labelled(labels, w[2]), At: labelled(labels, w[3]), Class: w[4]})
	}
	return mustEncode(ops...), handlers
}

func mustEncode(l ...api.Ins) string {
	s, e := code.Encode(l)
	if e != api.OK {
		panic("no code: " + strconv.Itoa(int(e)))
	}
	return s
}

func labelled(labels map[string]int, name string) int {
	at, ok := labels[name]
	if !ok {
		panic("no label " + name)
	}
	return at
}

// argument of an operation: a label, a number, a class, or a class's field or method.
func argument(l []api.Class, labels map[string]int, op int, word string) (int, int) {
	if op >= api.OpJump && op <= api.OpNone {
		return labelled(labels, word), 0
	}
	if n, err := strconv.Atoi(word); err == nil {
		return n, 0
	}
	class, part, _ := strings.Cut(word, ".")
	n := slices.IndexFunc(l, func(c api.Class) bool { return c.Name == class })
	if n < 0 {
		panic("no class " + word)
	}
	if part == "" {
		return n, 0
	}
	at := slices.IndexFunc(l[n].Methods, func(m api.Method) bool { return m.Name == part })
	if op == api.OpGet || op == api.OpPut {
		at = slices.IndexFunc(fieldsOf(l, class), func(f api.Field) bool { return f.Name == part })
	}
	if at < 0 {
		panic("nothing by " + word)
	}
	return n, at
}

// fieldsOf a class, with those above it first.
func fieldsOf(l []api.Class, class string) []api.Field {
	n := slices.IndexFunc(l, func(c api.Class) bool { return c.Name == class })
	if n < 0 {
		return nil
	}
	return append(fieldsOf(l, l[n].Super), l[n].Fields...)
}

// wide has room for whatever most tests make.
func wide() api.Script { return api.Script{Young: 400, Old: 400, Fuel: 1000} }

// mustRun runs classes without an error.
func mustRun(t *testing.T, l []api.Class, s api.Script) api.Trace {
	t.Helper()
	x, e := run.Run(l, s)
	if e != api.OK {
		t.Fatalf("Run says %d of %v by %v", e, l, s)
	}
	return x
}

func same(a, b api.Trace) bool {
	return slices.Equal(a.Printed, b.Printed) && slices.Equal(a.Ends, b.Ends) && a.End == b.End && a.Steps == b.Steps && a.Full == b.Full
}

// printed numbers, by whichever thread.
func printed(x api.Trace) []int {
	var l []int
	for _, p := range x.Printed {
		l = append(l, p.Number)
	}
	return l
}

// draw: numbers that are the same each time.
type draw uint64

func (d *draw) below(n int) int {
	*d = *d*6364136223846793005 + 1442695040888963407
	return int(uint64(*d) >> 33 % uint64(n))
}
