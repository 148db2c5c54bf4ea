package run

import "cinder/api"

// frame of a method that runs. One below another one stays at its OpCall.
type frame struct {
	*method
	n      int // which operation it is at
	locals []int
	stack  []int
}

// newFrame has arguments in its first locals, and 0 in the others.
func newFrame(m *method, args []int) *frame {
	f := &frame{method: m, locals: make([]int, m.Locals)}
	copy(f.locals, args)
	return f
}

// op is the operation that it is at.
func (f *frame) op() api.Ins { return f.list[f.n] }

// last of the stack: as many.
func (f *frame) last(many int) []int { return f.stack[len(f.stack)-many:] }

func (f *frame) drop(many int) { f.stack = f.stack[:len(f.stack)-many] }

// goOn behind an operation that took as many, and puts these.
func (f *frame) goOn(took int, puts ...int) {
	f.drop(took)
	f.stack = append(f.stack, puts...)
	f.n++
}

// refs are those of its locals, and then of its stack, that its state tells to be such.
func (f *frame) refs() []*int {
	s := f.states[f.n]
	return append(refsOf(f.locals, s.Locals), refsOf(f.stack, s.Stack)...)
}

// refsOf values: there may be fewer than kinds, if some went with a call.
func refsOf(values []int, kinds []api.Kind) []*int {
	var l []*int
	for i := range values {
		if kinds[i].Kind != api.KindInt && kinds[i].Kind != api.KindAny {
			l = append(l, &values[i])
		}
	}
	return l
}
