package image

import (
	"cinder/api"
	"cinder/fault"
	"cinder/wire"
)

// reader gives up only on what no writer writes; whether the classes may be is left to Check.
type reader struct{ wire.Reader }

func readClasses(s string) []api.Class {
	r := reader{wire.NewReader(s)}
	l := wire.ReadCounted(&r.Reader, r.class)
	fault.Demand(r.Left() == 0, api.ErrForm)
	return l
}

func (r *reader) class() api.Class {
	var c api.Class
	c.Name = r.Text()
	c.Super = r.Text()
	c.Fields = wire.ReadCounted(&r.Reader, r.field)
	c.Methods = wire.ReadCounted(&r.Reader, r.method)
	return c
}

func (r *reader) field() api.Field {
	var f api.Field
	f.Name = r.Text()
	f.Kind = r.kind()
	return f
}

func (r *reader) method() api.Method {
	var m api.Method
	m.Name = r.Text()
	m.Static = r.flag()
	m.Args = wire.ReadCounted(&r.Reader, r.kind)
	m.Returns = r.kind()
	m.Stack = r.Count()
	m.Locals = r.Count()
	m.Code = r.Bytes(r.Number())
	m.Handlers = wire.ReadCounted(&r.Reader, r.handler)
	return m
}

func (r *reader) flag() bool {
	n := r.Count()
	fault.Demand(n <= 1, api.ErrForm)
	return n == 1
}

func (r *reader) kind() api.Kind {
	var k api.Kind
	k.Kind = r.Count()
	if hasClass(k.Kind) {
		k.Class = r.Text()
	}
	return k
}

func (r *reader) handler() api.Handler {
	var h api.Handler
	h.From = r.Number()
	h.To = r.Number()
	h.At = r.Number()
	h.Class = r.Text()
	return h
}
