package run

import (
	"cinder/api"
	"cinder/things"
)

func (s step) makeOne() int {
	took, tag, length := 1, api.TagInts, 0
	switch s.Op {
	case api.OpNew:
		took, tag, length = 0, api.TagClass+s.A, len(s.Fields[s.A])
	case api.OpObjects:
		tag = api.TagObjects
	}
	if took == 1 {
		length = s.last(1)[0]
		if !s.MayHave(tag, length) {
			return api.CodeSize
		}
	}
	at, room := s.makeThing(tag, length)
	if !room {
		return api.CodeFull
	}
	s.goOn(took, at)
	return nothing
}

func (s step) measure() int {
	at := s.last(1)[0]
	if at == 0 {
		return api.CodeNull
	}
	s.goOn(1, s.Thing(at).Length)
	return nothing
}

// rowPlace is got, or set.
func (s step) rowPlace() int {
	took := 2
	if s.Op == api.OpSet {
		took = 3
	}
	l := s.last(took)
	if l[0] == 0 {
		return api.CodeNull
	}
	t := s.Thing(l[0])
	if l[1] < 0 || l[1] >= t.Length {
		return api.CodeRange
	}
	s.word(t, l[1], l)
	return nothing
}

func (s step) field() int {
	took := 1
	if s.Op == api.OpPut {
		took = 2
	}
	l := s.last(took)
	if l[0] == 0 {
		return api.CodeNull
	}
	t := s.Thing(l[0])
	if t.Tag < api.TagClass {
		return api.CodeRange // a row fits TopClass, but has none of its fields
	}
	s.word(t, s.B, l)
	return nothing
}

// word n of a thing is got, or set to the last one of what was taken.
func (s step) word(t things.Thing, n int, taken []int) {
	if s.Op == api.OpAt || s.Op == api.OpGet {
		s.goOn(len(taken), s.Words[t.Word(n)])
		return
	}
	s.Set(t, n, taken[len(taken)-1])
	s.goOn(len(taken))
}

func (s step) ask() int {
	at := s.last(1)[0]
	switch s.Op {
	case api.OpIs:
		is := 0
		if at != 0 && s.isOf(at, s.A) {
			is = 1
		}
		s.goOn(1, is)
	case api.OpCast:
		if at != 0 && !s.isOf(at, s.A) {
			return api.CodeCast
		}
		s.goOn(0)
	case api.OpHash:
		if at == 0 {
			return api.CodeNull
		}
		s.goOn(1, number(s.Thing(at).Hash))
	}
	return nothing
}

func (s step) hold() int {
	at := s.last(1)[0]
	if at == 0 {
		return api.CodeNull
	}
	if s.Op == api.OpLock {
		s.lock(s.thread, at)
	} else if !s.unlock(s.thread, at) {
		return api.CodeLock
	}
	s.goOn(1)
	return nothing
}
