package image_test

import (
	"strings"

	"cinder/api"
)

var (
	kindInt     = api.Kind{Kind: api.KindInt}
	kindInts    = api.Kind{Kind: api.KindInts}
	kindObject  = api.Kind{Kind: api.KindObject, Class: "A"}
	kindObjects = api.Kind{Kind: api.KindObjects, Class: "B"}
)

// full has every part that a class may have.
func full() api.Class {
	return api.Class{
		Name: "Full", Super: "Object",
		Fields: []api.Field{{Name: "n", Kind: kindInt}, {Name: "o", Kind: kindObject}},
		Methods: []api.Method{{
			Name: "run", Static: true,
			Args: []api.Kind{kindInts, kindObjects}, Returns: kindObject,
			Stack: 3, Locals: 4, Code: "\x00\x1b",
			Handlers: []api.Handler{{From: 0, To: 1, At: 200, Class: "Error"}},
		}},
	}
}

const fullBytes = "\x04Full\x06Object" +
	"\x02\x01n\x01\x01o\x03\x01A" +
	"\x01\x03run\x01\x02\x02\x04\x01B\x03\x01A\x03\x04\x00\x02\x00\x1b" +
	"\x01\x00\x00\x00\x01\x00\xc8\x05Error"

// turned is the full class, with something else in it.
func turned(do func(c *api.Class)) []api.Class {
	c := full()
	do(&c)
	return []api.Class{c}
}

func field(do func(f *api.Field)) []api.Class {
	return turned(func(c *api.Class) { do(&c.Fields[1]) })
}

func method(do func(m *api.Method)) []api.Class {
	return turned(func(c *api.Class) { do(&c.Methods[0]) })
}

func handler(do func(h *api.Handler)) []api.Class {
	return method(func(m *api.Method) { do(&m.Handlers[0]) })
}

func repeat[T any](x T, n int) []T {
	var l []T
	for range n {
		l = append(l, x)
	}
	return l
}

// draw: numbers that are the same each time.
type draw uint64

func (d *draw) below(n int) int {
	*d = *d*6364136223846793005 + 1442695040888963407
	return int(uint64(*d) >> 33 % uint64(n))
}

func (d *draw) name() string {
	const letters = "abcdefghijklmnopqrstuvwxyzABCDEFGHIJKLMNOPQRSTUVWXYZ0123456789_"
	var b strings.Builder
	for range 1 + d.below(api.MaxName) {
		b.WriteByte(letters[d.below(len(letters))])
	}
	return b.String()
}

func (d *draw) kind() api.Kind {
	k := api.Kind{Kind: api.KindInt + d.below(4)}
	if k.Kind >= api.KindObject {
		k.Class = d.name()
	}
	return k
}

func drawList[T any](d *draw, most int, one func() T) []T {
	var l []T
	for range d.below(most + 1) {
		l = append(l, one())
	}
	return l
}

func (d *draw) field() api.Field { return api.Field{Name: d.name(), Kind: d.kind()} }

func (d *draw) handler() api.Handler {
	place := func() int { return d.below(api.MaxCode + 1) }
	return api.Handler{From: place(), To: place(), At: place(), Class: d.name()}
}

func (d *draw) method() api.Method {
	m := api.Method{Name: d.name(), Static: d.below(2) == 1, Args: drawList(d, api.MaxArgs, d.kind)}
	if d.below(2) == 1 {
		m.Returns = d.kind()
	}
	m.Stack, m.Locals = d.below(api.MaxStack+1), d.below(api.MaxLocals+1)
	m.Code = string(drawList(d, api.MaxCode, func() byte { return byte(d.below(256)) }))
	m.Handlers = drawList(d, api.MaxHandlers, d.handler)
	return m
}

func (d *draw) class() api.Class {
	c := api.Class{Name: d.name()}
	if d.below(2) == 1 {
		c.Super = d.name()
	}
	c.Fields = drawList(d, api.MaxFields, d.field)
	c.Methods = drawList(d, api.MaxMethods, d.method)
	return c
}

func (d *draw) classes() []api.Class { return drawList(d, api.MaxClasses, d.class) }
