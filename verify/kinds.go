package verify

import (
	"cinder/api"
	"cinder/fault"
	"cinder/image"
	"cinder/link"
)

// Kinds that are not told of classes of their own: whatever it is fits anything, whatever may be on the heap fits a thing.
var (
	number   = api.Kind{Kind: api.KindInt}
	row      = api.Kind{Kind: api.KindInts}
	null     = api.Kind{Kind: api.KindNull}
	anything = api.Kind{Kind: api.KindAny}
	thing    = api.Kind{Kind: api.KindObject, Class: api.TopClass}
)

// kinds is what kinds are about: the classes that they may tell of.
type kinds struct {
	api.Linked
	numbers map[string]int // of classes, by their names
}

// about gives up, unless k is linked, and these are kinds, each of a class that there is.
func about(k api.Linked, asked ...api.Kind) kinds {
	fault.Demand(link.Check(k) == api.OK, api.ErrState)
	ks := kinds{Linked: k, numbers: map[string]int{}}
	for i, c := range k.Classes {
		ks.numbers[c.Name] = i
	}
	for _, a := range asked {
		fault.Demand(isKind(a), api.ErrKind)
		fault.Demand(a.Class == "" || ks.has(a.Class), api.ErrNone)
	}
	return ks
}

func isKind(a api.Kind) bool {
	if a.Kind == api.KindObject || a.Kind == api.KindObjects {
		return isName(a.Class)
	}
	return a == number || a == row || a == null || a == anything
}

// isName leaves to images what a NAME is.
func isName(s string) bool { return image.Check([]api.Class{{Name: s}}) == api.OK }

func object(class string) api.Kind { return api.Kind{Kind: api.KindObject, Class: class} }

func (k kinds) has(class string) bool {
	_, ok := k.numbers[class]
	return ok
}

// is asks whether a class is another one, or under it.
func (k kinds) is(a, b string) bool {
	n := k.numbers[a]
	for n >= 0 && k.Classes[n].Name != b {
		n = k.Supers[n]
	}
	return n >= 0
}

func (k kinds) above(a, b string) string {
	for !k.is(b, a) {
		a = k.Classes[k.numbers[a]].Super // it ends: TopClass is above all
	}
	return a
}

func isThing(a api.Kind) bool { return a != number && a != anything }

func areObjects(a, b api.Kind) bool { return a.Kind == api.KindObject && b.Kind == api.KindObject }

func (k kinds) fits(a, b api.Kind) bool {
	switch {
	case a == b, b == anything:
		return true
	case a == null:
		return b != number
	case b == thing:
		return isThing(a)
	}
	return areObjects(a, b) && k.is(a.Class, b.Class)
}

func (k kinds) join(a, b api.Kind) api.Kind {
	switch {
	case k.fits(b, a):
		return a
	case k.fits(a, b):
		return b
	case areObjects(a, b):
		return object(k.above(a.Class, b.Class))
	case isThing(a) && isThing(b):
		return thing
	}
	return anything
}
