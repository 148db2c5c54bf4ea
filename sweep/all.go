package sweep

import (
	"cmp"
	"maps"
	"slices"

	"cinder/things"
)

// reached things, by their addresses.
type reached map[int]things.Thing

// reach looks for all things that roots lead to, however far.
func (t *Task) reach() reached {
	all := make(reached, len(t.Roots))
	ahead := slices.Clone(t.Roots)
	for len(ahead) > 0 {
		last := len(ahead) - 1
		at := ahead[last]
		ahead = ahead[:last]
		if _, known := all[at]; known || at == 0 {
			continue
		}
		x := t.Thing(at)
		all[at] = x
		for _, ref := range t.Refs(x) {
			ahead = append(ahead, t.Words[ref])
		}
	}
	return all
}

func (r reached) words() int {
	n := 0
	for _, x := range r {
		n += x.Size()
	}
	return n
}

// Live words: those of all things that are reached.
func (t *Task) Live() int { return t.reach().words() }

// CollectAll pushes all that is reached together in the old part. If it has no room for that: false, and nothing is changed.
func (t *Task) CollectAll() bool {
	all := t.reach()
	if all.words() > t.Old {
		return false
	}
	t.push(slices.SortedFunc(maps.Values(all), func(a, b things.Thing) int {
		if t.IsYoung(a.At) != t.IsYoung(b.At) {
			return cmp.Compare(b.At, a.At) // the old part stands behind the young one, and goes first
		}
		return cmp.Compare(a.At, b.At)
	}))
	return true
}

// push things together, one behind the other, from the old part's first word on; there is nothing else then.
func (t *Task) push(l []things.Thing) {
	top := t.Young + 1
	now := map[int]int{} // null stays null
	for _, x := range l {
		now[x.At] = top
		top += x.Size()
	}
	words := make([]int, len(t.Words))
	for _, x := range l {
		y := x
		y.At = now[x.At]
		copy(words[y.At:], t.Words[x.At:x.End()])
		for _, at := range t.Refs(y) {
			words[at] = now[words[at]]
		}
	}
	for i, at := range t.Roots {
		t.Roots[i] = now[at]
	}
	t.Words, t.OldTop = words, top
	t.leaveYoung()
}
