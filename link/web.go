package link

import (
	"slices"

	"cinder/api"
	"cinder/fault"
	"cinder/image"
)

// web is what is made of classes that image's Check passes, whether they may hang together or not.
type web struct {
	api.Linked
	numbers map[string]int // of classes, by their names
	lines   [][]int        // of each class: those above it, from the uppermost one on, and itself
}

// tie makes a web of classes that hang together; it has the list's own classes.
func tie(l []api.Class) (*web, api.Errno) {
	if e := image.Check(l); e != api.OK {
		return nil, e
	}
	w, f := fault.Made(func() *web {
		w := weave(l)
		w.askAll()
		return w
	})
	return w, f.Err
}

func weave(l []api.Class) *web {
	w := &web{numbers: map[string]int{}}
	w.Classes = l
	for i, c := range l {
		w.numbers[c.Name] = i
	}
	for _, c := range l {
		w.Supers = append(w.Supers, w.number(c.Super))
	}
	for i := range l {
		w.lines = append(w.lines, w.line(i))
		w.Fields = append(w.Fields, w.fieldsOf(i))
		names, targets := w.namesOf(i)
		w.Names = append(w.Names, names)
		w.Targets = append(w.Targets, targets)
	}
	return w
}

// number of a class, -1 if there is none.
func (w *web) number(name string) int {
	if n, ok := w.numbers[name]; ok {
		return n
	}
	return -1
}

// line ends, too, if a class is above itself: it is longer than there are classes then.
func (w *web) line(class int) []int {
	var l []int
	for n := class; n >= 0 && len(l) <= len(w.Classes); n = w.Supers[n] {
		l = append(l, n)
	}
	slices.Reverse(l)
	return l
}

func (w *web) fieldsOf(class int) []api.Field {
	var l []api.Field
	for _, n := range w.lines[class] {
		l = append(l, w.Classes[n].Fields...)
	}
	return l
}

func (w *web) namesOf(class int) ([]string, []api.Target) {
	var names []string
	var targets []api.Target
	for _, n := range w.lines[class] {
		for i, m := range w.Classes[n].Methods {
			t := api.Target{Class: n, Method: i}
			if at := slices.Index(names, m.Name); at >= 0 {
				targets[at] = t
				continue
			}
			names = append(names, m.Name)
			targets = append(targets, t)
		}
	}
	return names, targets
}

// makes tells whether k, whose classes these are, is as the web is.
func (w *web) makes(k api.Linked) bool {
	return slices.Equal(w.Supers, k.Supers) &&
		slices.EqualFunc(w.Fields, k.Fields, slices.Equal) &&
		slices.EqualFunc(w.Names, k.Names, slices.Equal) &&
		slices.EqualFunc(w.Targets, k.Targets, slices.Equal)
}

func (w *web) find(name string) int {
	n := w.number(name)
	fault.Demand(n >= 0, api.ErrNone)
	return n
}

func (w *web) is(a, b int) bool { return slices.Contains(w.lines[a], b) }

func (w *web) above(a, b int) int {
	n := a
	for !w.is(b, n) {
		n = w.Supers[n] // it ends: TopClass is above all
	}
	return n
}

func (w *web) target(class int, name string) api.Target {
	at := slices.Index(w.Names[class], name)
	fault.Demand(at >= 0, api.ErrNone)
	return w.Targets[class][at]
}
