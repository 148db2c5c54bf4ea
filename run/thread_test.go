package run_test

import (
	"math"
	"slices"
	"strings"
	"testing"

	"cinder/api"
)

// H3, H4: which thread steps: of as many as may.
func TestPicksAreOverHowManyMayStep(t *testing.T) {
	l := built(texts(
		"Object.main", "null; push 1; spawn Object.work; null; push 2; spawn Object.work; push 0; print; return",
		"Object.work", "load 1; print; load 1; push 10; mul; print; return"))
	for _, c := range []struct {
		what  string
		picks []int
		want  []int // printed
	}{
		{"none: always the first one", nil, []int{0, 1, 10, 2, 20}},
		{"always the first one", []int{0}, []int{0, 1, 10, 2, 20}},
		{"the second one, if there are two", []int{1}, []int{1, 10, 2, 20, 0}},
		{"the third one, if there are three; the first one, if there are two", []int{2}, []int{2, 20, 0, 1, 10}},
		{"six, which two and three go into", []int{6}, []int{0, 1, 10, 2, 20}},
		{"below 0: what it lacks to 0", []int{-1}, []int{1, 10, 2, 20, 0}},
		{"further below 0", []int{-2}, []int{2, 20, 0, 1, 10}},
		{"the least of all", []int{math.MinInt}, []int{2, 20, 0, 1, 10}},
	} {
		s := wide()
		s.Picks = c.picks
		x := mustRun(t, l, s)
		if got := printed(x); !slices.Equal(got, c.want) || !slices.Equal(x.Ends, []int{0, 0, 0}) || x.End != api.EndDone || x.Full {
			t.Errorf("%s: %v, want %v", c.what, x, c.want)
		}
	}
}

// H3: Picks are by turns, by the step's number, whoever stepped.
func TestPicksAreByTurns(t *testing.T) {
	l := built(texts("Object.main", "null; push 1; spawn Object.work; a:; push 0; print; jump a", "Object.work", "a:; load 1; print; jump a"))
	for _, picks := range [][]int{{0, 1}, {0, 0, 1}, {0, 0, 0, 1, 1, 1}, {5, 5, 5, 0, 0, 0, 0, 0, 0}, {7, 4}, {1, 1, 1, 1, 0}} {
		s := wide()
		s.Picks, s.Fuel = picks, 30
		x := mustRun(t, l, s)
		if x.Steps != 30 || x.End != api.EndFuel || !slices.Equal(x.Ends, []int{-2, -2}) {
			t.Errorf("%v: %v", picks, x)
		}
		if got := printed(x); !slices.Equal(got, byTurns(picks, 30)) {
			t.Errorf("%v: %v, want %v", picks, got, byTurns(picks, 30))
		}
	}
}

// byTurns is what two threads print, of which each prints by its second step of three, from step 3 on.
func byTurns(picks []int, fuel int) []int {
	var l []int
	steps := []int{0, 0}
	for n := 3; n < fuel; n++ {
		who := picks[n%len(picks)] % 2
		if steps[who]%3 == 1 {
			l = append(l, who)
		}
		steps[who]++
	}
	return l
}

// H3: how a run ends.
func TestEnds(t *testing.T) {
	stuck := texts(
		"Object.main", "new Node; store 0; load 0; new Node; put Node.next; load 0; lock; load 0; push 1; spawn Object.work; load 0; get Node.next; lock; return",
		"Object.work", "load 0; get Node.next; lock; load 0; lock; return")
	once := texts("Object.main", "new Node; store 0; load 0; lock; load 0; push 1; spawn Object.work; a:; load 0; lock; jump a", "Object.work", "load 0; lock; return")
	quick := texts("Object.main", "null; push 1; spawn Object.work; null; push 2; spawn Object.work; new Late; throw", "Object.work", "load 1; push 1; sub; zero a; return; a:; null; length; return")
	for _, c := range []struct {
		what  string
		texts map[string]string
		picks []int
		fuel  int
		want  api.Trace
	}{
		{"no fuel", plain(), nil, 0, api.Trace{Ends: []int{-2}, End: api.EndFuel}},
		{"the last step ends all, and spends all", plain(), nil, 1, api.Trace{Ends: []int{0}, End: api.EndFuel, Steps: 1}},
		{"one is left", plain(), nil, 2, api.Trace{Ends: []int{0}, End: api.EndDone, Steps: 1}},
		{"the first one has both", stuck, nil, 100, api.Trace{Ends: []int{0, 0}, End: api.EndDone, Steps: 20}},
		{"each waits for the other one", stuck, []int{1}, 100, api.Trace{Ends: []int{-2, -2}, End: api.EndStuck, Steps: 16}},
		{"each waits, and one step is left", stuck, []int{1}, 17, api.Trace{Ends: []int{-2, -2}, End: api.EndStuck, Steps: 16}},
		{"each waits, and fuel is spent just then", stuck, []int{1}, 16, api.Trace{Ends: []int{-2, -2}, End: api.EndFuel, Steps: 16}},
		{"one waits for one that goes on", once, []int{1}, 40, api.Trace{Ends: []int{-2, -2}, End: api.EndFuel, Steps: 40}},
		{"each by its own", quick, nil, 100, api.Trace{Ends: []int{-1, 1, 0}, End: api.EndDone, Steps: 19}},
		{"by the word of an Error that is as if it did not end", texts("Object.main", "new Error; dup; push -2; put Error.code; throw"), nil, 100, api.Trace{Ends: []int{-2}, End: api.EndDone, Steps: 5}},
	} {
		s := wide()
		s.Picks, s.Fuel = c.picks, c.fuel
		x := mustRun(t, built(c.texts), s)
		if !same(x, c.want) {
			t.Errorf("%s: %v, want %v", c.what, x, c.want)
		}
	}
}

// H3, H4, H6: what is locked, by whom, how often, and when it is free.
func TestLocks(t *testing.T) {
	main := func(behind string) string {
		return "new Node; store 0; load 0; lock; load 0; push 1; spawn Object.work; nop; nop; nop; nop; " + behind
	}
	work := "push 5; print; load 0; lock; push 6; print; load 0; unlock; return"
	for _, c := range []struct {
		what, main, work string
		want             []int // printed, if the second one goes ahead wherever it may
		ends             []int
	}{
		{"until it is unlocked", main("push 1; print; load 0; unlock; push 2; print; return"), work, []int{5, 1, 6, 2}, []int{0, 0}},
		{"until it is unlocked as often", main("load 0; lock; load 0; unlock; push 1; print; load 0; unlock; push 2; print; return"), work, []int{5, 1, 6, 2}, []int{0, 0}},
		{"until the thread returns", main("push 1; print; return"), work, []int{5, 1, 6}, []int{0, 0}},
		{"until the thread is ended by what is thrown", main("load 0; lock; push 1; print; null; length; return"), work, []int{5, 1, 6}, []int{1, 0}},
		{"unlocked by another one", main("push 1; print; return"), "load 0; unlock; push 6; print; return", []int{1}, []int{0, 8}},
		{"what another one locked is not one's own behind it", main("load 0; unlock; push 1; print; nop; nop; load 0; unlock; return"), "load 0; lock; push 6; print; nop; nop; nop; return", []int{6, 1}, []int{8, 0}},
		{"another thing", main("push 1; print; load 0; unlock; return"), "new Node; lock; push 6; print; return", []int{6, 1}, []int{0, 0}},
		{"null is no thing that is locked", main("push 1; print; return"), "null; lock; return", []int{1}, []int{0, 1}},
	} {
		s := wide()
		s.Picks = []int{1}
		x := mustRun(t, built(texts("Object.main", c.main, "Object.work", c.work)), s)
		if !slices.Equal(printed(x), c.want) || !slices.Equal(x.Ends, c.ends) || x.End != api.EndDone {
			t.Errorf("%s: %v, want %v, %v", c.what, x, c.want, c.ends)
		}
	}
}

// H4, H5: as many threads as may be; those that ended count.
func TestSpawn(t *testing.T) {
	spawn := func(many int) string { return strings.Repeat("new Node; push 4; spawn Object.work; ", many) }
	for _, c := range []struct {
		picks []int
		many  int
		ends  []int
	}{
		{nil, 3, []int{0, 0, 0, 0}}, {[]int{1}, 3, []int{0, 0, 0, 0}}, {nil, 4, []int{api.CodeMany, 0, 0, 0}}, {[]int{1}, 4, []int{api.CodeMany, 0, 0, 0}},
	} {
		s := wide()
		s.Picks = c.picks
		x := mustRun(t, built(texts("Object.main", spawn(c.many)+"return", "Object.work", "load 0; hash; load 1; add; print; return")), s)
		if !slices.Equal(x.Ends, c.ends) || x.End != api.EndDone {
			t.Errorf("%d by %v: %v", c.many, c.picks, x)
		}
		for i, p := range x.Printed {
			if p.Thread != i+1 || p.Number != i+6 {
				t.Errorf("%d by %v: line %d is %v", c.many, c.picks, i, p)
			}
		}
	}
	x := mustRun(t, built(texts("Object.main", spawn(1)+"return", "Object.work", spawn(1)+"return")), wide())
	if !slices.Equal(x.Ends, []int{0, 0, 0, api.CodeMany}) {
		t.Errorf("each spawns another one: %v", x)
	}
}

// H5: a thread has its own frames.
func TestDeepIsByThread(t *testing.T) {
	work := "load 1; print; load 1; push 1; sub; dup; store 1; zero end; load 0; load 1; call Object.work; end:; return"
	main := "null; push 8; spawn Object.work; null; push 8; call Object.work; return"
	x := mustRun(t, built(texts("Object.main", main, "Object.work", work)), wide())
	if !slices.Equal(x.Ends, []int{api.CodeDeep, 0}) || len(x.Printed) != 7+8 {
		t.Errorf("it is %v", x)
	}
}
