package run

import (
	"slices"

	"cinder/api"
	"cinder/code"
	"cinder/fault"
	"cinder/link"
	"cinder/verify"
)

// method that was looked at: what the image says of it, its operations, and what locals and the stack have ahead of each.
type method struct {
	api.Method
	list   []api.Ins
	states []api.State
}

// lookAtAll gives up, if a method has a fault. Methods are by their classes.
func lookAtAll(k api.Linked) [][]*method {
	all := make([][]*method, len(k.Classes))
	for i, c := range k.Classes {
		for j := range c.Methods {
			all[i] = append(all[i], lookAt(k, i, j))
		}
	}
	return all
}

func lookAt(k api.Linked, class, n int) *method {
	states, f := verify.Method(k, class, n)
	fault.Demand(f.Err == api.OK, api.ErrKind)
	m := k.Classes[class].Methods[n]
	list, _ := code.Decode(m.Code) // it has no fault: that was looked at
	return &method{m, list, states}
}

// findMain gives up, if there is no method to begin with.
func findMain(k api.Linked, methods [][]*method) *method {
	top, _ := link.Find(k, api.TopClass) // it is linked: there is one
	n := slices.IndexFunc(methods[top], func(m *method) bool {
		return m.Name == "main" && m.Static && len(m.Args) == 0 && m.Returns.Kind == api.KindNone
	})
	fault.Demand(n >= 0, api.ErrNone)
	return methods[top][n]
}

// place of the operation at a byte: that there is one was looked at.
func (m *method) place(at int) int {
	n, _ := code.Place(m.list, at)
	return n
}
