package link

import (
	"slices"

	"cinder/api"
	"cinder/fault"
)

// askAll asks in the order in which errors are told: each question leans on those ahead of it.
func (w *web) askAll() {
	fault.Ask([]fault.Question{
		{Is: w.namesDiffer, Else: api.ErrTwice},
		{Is: w.hasTopAndError, Else: api.ErrNone},
		{Is: w.topAloneIsUppermost, Else: api.ErrState},
		{Is: w.supersAreKnown, Else: api.ErrNone},
		{Is: w.noneIsAboveItself, Else: api.ErrState},
		{Is: w.errorIsRight, Else: api.ErrState},
		{Is: w.allToldIsKnown, Else: api.ErrNone},
		{Is: w.partsDiffer, Else: api.ErrTwice},
		{Is: w.namesStandForTheSame, Else: api.ErrState},
		{Is: w.areFew, Else: api.ErrMany},
	})
}

func (w *web) namesDiffer() bool { return len(w.numbers) == len(w.Classes) }

func (w *web) hasTopAndError() bool { return w.has(api.TopClass, api.ErrorClass) }

func (w *web) topAloneIsUppermost() bool {
	return every(w.Classes, func(c api.Class) bool { return (c.Name == api.TopClass) == (c.Super == "") })
}

func (w *web) supersAreKnown() bool {
	return every(w.Classes, func(c api.Class) bool { return c.Super == "" || w.has(c.Super) })
}

func (w *web) noneIsAboveItself() bool {
	return every(w.lines, func(line []int) bool { return len(line) <= len(w.Classes) })
}

func (w *web) errorIsRight() bool {
	n := w.number(api.ErrorClass)
	l := w.Fields[n]
	return w.Supers[n] == w.number(api.TopClass) && len(l) > 0 && l[0].Kind == api.Kind{Kind: api.KindInt}
}

func (w *web) allToldIsKnown() bool {
	return every(w.Classes, func(c api.Class) bool {
		return every(c.Fields, func(f api.Field) bool { return w.knows(f.Kind) }) && every(c.Methods, w.knowsTold)
	})
}

func (w *web) knowsTold(m api.Method) bool {
	return w.knows(m.Args...) && w.knows(m.Returns) &&
		every(m.Handlers, func(h api.Handler) bool { return w.has(h.Class) })
}

func (w *web) partsDiffer() bool {
	return every(w.Fields, func(l []api.Field) bool { return differ(l, func(f api.Field) string { return f.Name }) }) &&
		every(w.Classes, func(c api.Class) bool { return differ(c.Methods, func(m api.Method) string { return m.Name }) })
}

// namesStandForTheSame asks of each method just after the next one above it by its name: that one was held against those above it likewise.
func (w *web) namesStandForTheSame() bool {
	for i, c := range w.Classes {
		if c.Super != "" && !every(c.Methods, func(m api.Method) bool { return w.mayStandIn(w.Supers[i], m) }) {
			return false
		}
	}
	return true
}

// mayStandIn tells whether a method may have its name under a class: a static one stands in for none, and none for it.
func (w *web) mayStandIn(class int, m api.Method) bool {
	at := slices.Index(w.Names[class], m.Name)
	if at < 0 {
		return true
	}
	t := w.Targets[class][at]
	other := w.Classes[t.Class].Methods[t.Method]
	return !m.Static && !other.Static && m.Returns == other.Returns && slices.Equal(m.Args, other.Args)
}

func (w *web) areFew() bool {
	return every(w.Fields, func(l []api.Field) bool { return len(l) <= 2*api.MaxFields }) &&
		every(w.Names, func(l []string) bool { return len(l) <= 2*api.MaxMethods })
}

func (w *web) has(names ...string) bool {
	return every(names, func(s string) bool { return w.number(s) >= 0 })
}

func (w *web) knows(kinds ...api.Kind) bool {
	return every(kinds, func(k api.Kind) bool { return k.Class == "" || w.has(k.Class) })
}

func every[T any](l []T, holds func(T) bool) bool {
	return !slices.ContainsFunc(l, func(x T) bool { return !holds(x) })
}

func differ[T any](l []T, name func(T) string) bool {
	for i, x := range l {
		if slices.ContainsFunc(l[:i], func(y T) bool { return name(x) == name(y) }) {
			return false
		}
	}
	return true
}
