package image_test

import (
	"math"
	"strings"
	"testing"

	"cinder/api"
	"cinder/image"
)

type checked struct {
	what string
	l    []api.Class
	want api.Errno
}

func lookAt(t *testing.T, cases []checked) {
	t.Helper()
	for _, c := range cases {
		if got := image.Check(c.l); got != c.want {
			t.Errorf("%s: Check says %d, want %d", c.what, got, c.want)
		}
		if s, got := image.Write(c.l); got != c.want || got != api.OK && s != "" {
			t.Errorf("%s: Write says %d with %d bytes, want %d", c.what, got, len(s), c.want)
		}
	}
}

// A1: each place where a NAME must stand, and an empty Super.
func TestNamesHaveTheirForm(t *testing.T) {
	places := []struct {
		what string
		with func(s string) []api.Class
		bad  api.Errno
	}{
		{"class", func(s string) []api.Class { return turned(func(c *api.Class) { c.Name = s }) }, api.ErrForm},
		{"super", func(s string) []api.Class { return turned(func(c *api.Class) { c.Super = s }) }, api.ErrForm},
		{"field", func(s string) []api.Class { return field(func(f *api.Field) { f.Name = s }) }, api.ErrForm},
		{"field's class", func(s string) []api.Class { return field(func(f *api.Field) { f.Kind.Class = s }) }, api.ErrKind},
		{"method", func(s string) []api.Class { return method(func(m *api.Method) { m.Name = s }) }, api.ErrForm},
		{"argument's class", func(s string) []api.Class { return method(func(m *api.Method) { m.Args[1].Class = s }) }, api.ErrKind},
		{"returned class", func(s string) []api.Class { return method(func(m *api.Method) { m.Returns.Class = s }) }, api.ErrKind},
		{"handler's class", func(s string) []api.Class { return handler(func(h *api.Handler) { h.Class = s }) }, api.ErrForm},
	}
	for _, p := range places {
		empty := p.bad
		if p.what == "super" {
			empty = api.OK
		}
		lookAt(t, []checked{
			{p.what + ": none", p.with(""), empty},
			{p.what + ": one byte", p.with("_"), api.OK},
			{p.what + ": the longest", p.with(strings.Repeat("z", api.MaxName)), api.OK},
			{p.what + ": too long", p.with(strings.Repeat("z", api.MaxName+1)), p.bad},
			{p.what + ": a wrong byte first", p.with(" a"), p.bad},
			{p.what + ": a wrong byte last", p.with("a-"), p.bad},
			{p.what + ": no ASCII", p.with("\u00e9"), p.bad},
		})
	}
}

// A1: each byte, alone.
func TestNamesHaveLettersDigitsAndLowLines(t *testing.T) {
	const right = "abcdefghijklmnopqrstuvwxyzABCDEFGHIJKLMNOPQRSTUVWXYZ0123456789_"
	for b := range 256 {
		want := api.ErrForm
		if strings.IndexByte(right, byte(b)) >= 0 {
			want = api.OK
		}
		if got := image.Check([]api.Class{{Name: string([]byte{byte(b)})}}); got != want {
			t.Errorf("byte %d: %d, want %d", b, got, want)
		}
	}
}

// A1: how many there may be, at the limits and beyond.
func TestListsHaveLimits(t *testing.T) {
	fields := func(n int) []api.Class {
		return turned(func(c *api.Class) { c.Fields = repeat(c.Fields[0], n) })
	}
	methods := func(n int) []api.Class {
		return turned(func(c *api.Class) { c.Methods = repeat(c.Methods[0], n) })
	}
	args := func(n int) []api.Class { return method(func(m *api.Method) { m.Args = repeat(kindInt, n) }) }
	code := func(n int) []api.Class { return method(func(m *api.Method) { m.Code = strings.Repeat("\xff", n) }) }
	handlers := func(n int) []api.Class {
		return method(func(m *api.Method) { m.Handlers = repeat(m.Handlers[0], n) })
	}
	lookAt(t, []checked{
		{"no classes", nil, api.OK},
		{"all classes", repeat(full(), api.MaxClasses), api.OK},
		{"a class too many", repeat(full(), api.MaxClasses+1), api.ErrMany},
		{"no fields", fields(0), api.OK},
		{"all fields", fields(api.MaxFields), api.OK},
		{"a field too many", fields(api.MaxFields + 1), api.ErrMany},
		{"no methods", methods(0), api.OK},
		{"all methods", methods(api.MaxMethods), api.OK},
		{"a method too many", methods(api.MaxMethods + 1), api.ErrMany},
		{"no arguments", args(0), api.OK},
		{"all arguments", args(api.MaxArgs), api.OK},
		{"an argument too many", args(api.MaxArgs + 1), api.ErrMany},
		{"no code", code(0), api.OK},
		{"all code", code(api.MaxCode), api.OK},
		{"a byte too many", code(api.MaxCode + 1), api.ErrMany},
		{"no handlers", handlers(0), api.OK},
		{"all handlers", handlers(api.MaxHandlers), api.OK},
		{"a handler too many", handlers(api.MaxHandlers + 1), api.ErrMany},
	})
}

// A1: numbers, at their ends and beyond.
func TestNumbersHaveRanges(t *testing.T) {
	places := []struct {
		what string
		most int
		with func(n int) []api.Class
	}{
		{"stack", api.MaxStack, func(n int) []api.Class { return method(func(m *api.Method) { m.Stack = n }) }},
		{"locals", api.MaxLocals, func(n int) []api.Class { return method(func(m *api.Method) { m.Locals = n }) }},
		{"from", api.MaxCode, func(n int) []api.Class { return handler(func(h *api.Handler) { h.From = n }) }},
		{"to", api.MaxCode, func(n int) []api.Class { return handler(func(h *api.Handler) { h.To = n }) }},
		{"at", api.MaxCode, func(n int) []api.Class { return handler(func(h *api.Handler) { h.At = n }) }},
	}
	for _, p := range places {
		lookAt(t, []checked{
			{p.what + ": 0", p.with(0), api.OK},
			{p.what + ": the most", p.with(p.most), api.OK},
			{p.what + ": more", p.with(p.most + 1), api.ErrRange},
			{p.what + ": below", p.with(-1), api.ErrRange},
			{p.what + ": the greatest", p.with(math.MaxInt), api.ErrRange},
			{p.what + ": the least", p.with(math.MinInt), api.ErrRange},
		})
	}
}

// A1: which kinds are RIGHT, and what may be returned beside these.
func TestKindsAreRight(t *testing.T) {
	places := []struct {
		what string
		with func(k api.Kind) []api.Class
		none api.Errno
	}{
		{"field", func(k api.Kind) []api.Class { return field(func(f *api.Field) { f.Kind = k }) }, api.ErrKind},
		{"argument", func(k api.Kind) []api.Class { return method(func(m *api.Method) { m.Args[1] = k }) }, api.ErrKind},
		{"returned", func(k api.Kind) []api.Class { return method(func(m *api.Method) { m.Returns = k }) }, api.OK},
	}
	for _, p := range places {
		lookAt(t, []checked{
			{p.what + ": a number", p.with(kindInt), api.OK},
			{p.what + ": a row", p.with(kindInts), api.OK},
			{p.what + ": an object", p.with(kindObject), api.OK},
			{p.what + ": a row of objects", p.with(kindObjects), api.OK},
			{p.what + ": none", p.with(api.Kind{}), p.none},
			{p.what + ": none with a class", p.with(api.Kind{Class: "A"}), api.ErrKind},
			{p.what + ": a number with a class", p.with(api.Kind{Kind: api.KindInt, Class: "A"}), api.ErrKind},
			{p.what + ": a row with a class", p.with(api.Kind{Kind: api.KindInts, Class: "A"}), api.ErrKind},
			{p.what + ": an object without", p.with(api.Kind{Kind: api.KindObject}), api.ErrKind},
			{p.what + ": a row without", p.with(api.Kind{Kind: api.KindObjects}), api.ErrKind},
			{p.what + ": null", p.with(api.Kind{Kind: api.KindNull}), api.ErrKind},
			{p.what + ": any", p.with(api.Kind{Kind: api.KindAny}), api.ErrKind},
			{p.what + ": below", p.with(api.Kind{Kind: -1}), api.ErrKind},
			{p.what + ": a byte round", p.with(api.Kind{Kind: 256 + api.KindInt}), api.ErrKind},
		})
	}
}

// A1, P1: of several errors the first one named. Each one is put ahead of all that were put before it.
func TestFirstErrorIsTold(t *testing.T) {
	l := []api.Class{full(), {}}
	second := l[0].Methods[0]
	l[0].Fields = l[0].Fields[:1]
	c := &l[0]
	c.Methods = []api.Method{second, {}}
	m := &c.Methods[0]
	steps := []struct {
		what string
		do   func()
		want api.Errno
	}{
		{"nothing but the second method's name", func() {}, api.ErrForm},
		{"handler's range", func() { m.Handlers[0].To = -1 }, api.ErrRange},
		{"handler's class", func() { m.Handlers[0].Class = "" }, api.ErrForm},
		{"returned kind", func() { m.Returns.Kind = 9 }, api.ErrKind},
		{"locals", func() { m.Locals = -1 }, api.ErrRange},
		{"code", func() { m.Code = strings.Repeat("x", api.MaxCode+1) }, api.ErrMany},
		{"method's name", func() { m.Name = "" }, api.ErrForm},
		{"field's kind", func() { c.Fields[0].Kind.Kind = 0 }, api.ErrKind},
		{"field's name", func() { c.Fields[0].Name = "" }, api.ErrForm},
		{"methods", func() { c.Methods = append(c.Methods, make([]api.Method, api.MaxMethods)...) }, api.ErrMany},
		{"super", func() { c.Super = "?" }, api.ErrForm},
		{"classes", func() { l = append(l, make([]api.Class, api.MaxClasses)...) }, api.ErrMany},
	}
	for _, s := range steps {
		s.do()
		lookAt(t, []checked{{s.what, l, s.want}})
	}
}

// A1: one by one: what is wrong with the first one is told ahead of what is wrong with the next.
func TestOneByOne(t *testing.T) {
	early := full()
	early.Methods[0].Handlers[0].At = -1
	lookAt(t, []checked{
		{"class by class", []api.Class{early, {}}, api.ErrRange},
		{"field by field", turned(func(c *api.Class) { c.Fields[0].Kind.Kind, c.Fields[1].Name = 0, "" }), api.ErrKind},
		{"fields ahead of methods", turned(func(c *api.Class) { c.Fields[1].Kind.Kind, c.Methods[0].Name = 0, "" }), api.ErrKind},
		{"handler by handler", method(func(m *api.Method) {
			m.Handlers = []api.Handler{{From: -1, Class: "E"}, {}}
		}), api.ErrRange},
		{"all arguments ahead of handlers", method(func(m *api.Method) { m.Args[1].Kind, m.Handlers[0].Class = 0, "" }), api.ErrKind},
	})
}
