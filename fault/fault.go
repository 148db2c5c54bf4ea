// Package fault: giving up on what is wrong, from however deep within a call.
package fault

import "cinder/api"

// wrong is a type of its own, so that no other panic is taken for it.
type wrong struct{ api.Fault }

// Demand gives up, unless something holds.
func Demand(holds bool, e api.Errno) { DemandAt(holds, e, 0) }

// DemandAt gives up at a byte, unless something holds.
func DemandAt(holds bool, e api.Errno, at int) {
	if !holds {
		panic(wrong{api.Fault{Err: e, At: at}})
	}
}

// Caught does something, and tells what it gave up with, if it did.
func Caught(do func()) (f api.Fault) {
	defer func() {
		p := recover()
		if p == nil {
			return
		}
		w, ok := p.(wrong)
		if !ok {
			panic(p) // a mistake of the program: to hide it would be to answer what is not so
		}
		f = w.Fault
	}()
	do()
	return api.Fault{}
}

// Made is what a function makes: nothing, if it gives up, and with what it did.
func Made[T any](do func() T) (T, api.Fault) {
	var made T
	f := Caught(func() { made = do() })
	return made, f
}

// Question is what must be, and what it is told by, if it is not.
type Question struct {
	Is   func() bool
	Else api.Errno
}

// Ask gives up at the first question whose answer is no: those behind it may lean on it.
func Ask(l []Question) {
	for _, q := range l {
		Demand(q.Is(), q.Else)
	}
}
