package run

import (
	"slices"

	"cinder/api"
)

func (m *machine) setCode(at, code int) { m.Set(m.Thing(at), 0, code) }

// failed makes an object with a code; it is the full error, if there is no room.
func (m *machine) failed(code int) int {
	if code != api.CodeFull {
		at, room := m.makeThing(api.TagClass+m.failure, len(m.Fields[m.failure]))
		if room {
			m.setCode(at, code)
			return at
		}
	}
	m.trace.Full = true
	return m.full
}

// throw an object in a thread: to the uppermost frame that handles it, those above go; if none does, the thread ends.
func (m *machine) throw(t *thread, at int) {
	for !t.hasEnded() {
		f := t.uppermost()
		if n := m.handler(f, at); n >= 0 {
			f.stack = []int{at}
			f.n = f.place(f.Handlers[n].At)
			return
		}
		t.leave()
	}
	m.finish(t, m.endBy(at))
}

// handler of a frame: the first one that tells of its operation, and of an object: -1, if there is none.
func (m *machine) handler(f *frame, at int) int {
	op := f.op().At
	return slices.IndexFunc(f.Handlers, func(h api.Handler) bool {
		return h.From <= op && op < h.To && m.isOf(at, m.numberOf(h.Class))
	})
}

// endBy an object that nobody handles.
func (m *machine) endBy(at int) int {
	t := m.Thing(at)
	if t.Tag != api.TagClass+m.failure {
		return another
	}
	return m.Words[t.Word(0)]
}

// numberOf a class that there is.
func (m *machine) numberOf(class string) int {
	return slices.IndexFunc(m.Classes, func(c api.Class) bool { return c.Name == class })
}

// isOf tells whether a thing is an object of a class or under it. Whatever it is, it is of TopClass.
func (m *machine) isOf(at, class int) bool {
	n := m.classOf(at)
	for n >= 0 && n != class {
		n = m.Supers[n]
	}
	return n == class
}

// classOf a thing. A row has none of its own: it is what all things are.
func (m *machine) classOf(at int) int {
	if tag := m.Thing(at).Tag; tag >= api.TagClass {
		return tag - api.TagClass
	}
	return m.top
}
