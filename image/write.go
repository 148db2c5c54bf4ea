package image

import (
	"cinder/api"
	"cinder/wire"
)

// writer takes what Check has passed: all of it fits its bytes.
type writer struct{ wire.Builder }

func (w *writer) class(c api.Class) {
	w.Text(c.Name)
	w.Text(c.Super)
	wire.WriteCounted(&w.Builder, c.Fields, w.field)
	wire.WriteCounted(&w.Builder, c.Methods, w.method)
}

func (w *writer) field(f api.Field) {
	w.Text(f.Name)
	w.kind(f.Kind)
}

func (w *writer) method(m api.Method) {
	w.Text(m.Name)
	w.flag(m.Static)
	wire.WriteCounted(&w.Builder, m.Args, w.kind)
	w.kind(m.Returns)
	w.Count(m.Stack)
	w.Count(m.Locals)
	w.Number(len(m.Code))
	w.Bytes(m.Code)
	wire.WriteCounted(&w.Builder, m.Handlers, w.handler)
}

func (w *writer) flag(set bool) {
	if set {
		w.Count(1)
	} else {
		w.Count(0)
	}
}

func (w *writer) kind(k api.Kind) {
	w.Count(k.Kind)
	if hasClass(k.Kind) {
		w.Text(k.Class)
	}
}

func (w *writer) handler(h api.Handler) {
	w.Number(h.From)
	w.Number(h.To)
	w.Number(h.At)
	w.Text(h.Class)
}
