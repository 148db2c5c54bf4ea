package heap

import (
	"slices"

	"cinder/api"
	"cinder/fault"
	"cinder/link"
	"cinder/things"
)

// sizes are asked after ahead of all things: where these may be hangs on them.
type sizes struct{ api.Heap }

// whole is a heap whose things end where they must.
type whole struct{ *things.Chart }

// checked gives up, unless a heap is as it must be, with what is told first.
func checked(h api.Heap, k api.Linked) whole {
	fault.Demand(link.Check(k) == api.OK, api.ErrState)
	s := sizes{h}
	fault.Ask([]fault.Question{
		{Is: s.partsMayBe, Else: api.ErrRange},
		{Is: s.wordsAreAll, Else: api.ErrForm},
		{Is: s.topsAndNextMayBe, Else: api.ErrRange},
	})
	c, ends := things.Find(h, k)
	fault.Demand(ends, api.ErrForm)
	w := whole{c}
	fault.Ask([]fault.Question{
		{Is: w.hashesAreBelowNext, Else: api.ErrRange},
		{Is: w.hashesDiffer, Else: api.ErrTwice},
		{Is: w.refsLead, Else: api.ErrNone},
		{Is: w.restIsEmpty, Else: api.ErrForm},
		{Is: w.notedRise, Else: api.ErrState},
		{Is: w.notedAreOldWithRefs, Else: api.ErrState},
		{Is: w.youngRefsAreNoted, Else: api.ErrState},
	})
	return w
}

func isPart(words int) bool { return words >= api.HeadWords && words <= api.MaxPart }

func (s sizes) partsMayBe() bool { return isPart(s.Young) && isPart(s.Old) }

func (s sizes) wordsAreAll() bool { return len(s.Words) == 1+s.Young+s.Old }

func (s sizes) topsAndNextMayBe() bool {
	return s.YoungTop >= 1 && s.YoungTop <= s.Young+1 &&
		s.OldTop >= s.Young+1 && s.OldTop <= s.Young+s.Old+1 && s.Next >= 1
}

func (w whole) hashesAreBelowNext() bool {
	return !slices.ContainsFunc(w.All, func(t things.Thing) bool { return t.Hash < 1 || t.Hash >= w.Next })
}

func (w whole) hashesDiffer() bool {
	byHash := map[int]things.Thing{}
	for _, t := range w.All {
		byHash[t.Hash] = t
	}
	return len(byHash) == len(w.All)
}

func (w whole) refsLead() bool {
	astray := func(ref int) bool { return !w.MayLead(ref) }
	return !slices.ContainsFunc(w.All, func(t things.Thing) bool { return w.HasRef(t, astray) })
}

func (w whole) restIsEmpty() bool {
	rest := slices.Concat(w.Words[:1], w.Words[w.YoungTop:w.Young+1], w.Words[w.OldTop:])
	return !slices.ContainsFunc(rest, func(word int) bool { return word != 0 })
}

func (w whole) notedRise() bool {
	for i, at := range w.Noted {
		if i > 0 && at <= w.Noted[i-1] {
			return false
		}
	}
	return true
}

func (w whole) notedAreOldWithRefs() bool {
	return !slices.ContainsFunc(w.Noted, func(at int) bool {
		t, ok := w.At(at)
		return !ok || !w.IsOld(at) || len(w.Refs(t)) == 0
	})
}

func (w whole) youngRefsAreNoted() bool {
	return !slices.ContainsFunc(w.All, func(t things.Thing) bool {
		_, noted := slices.BinarySearch(w.Noted, t.At)
		return w.IsOld(t.At) && !noted && w.HasRef(t, w.IsYoung)
	})
}
