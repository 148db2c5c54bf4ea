package run_test

import (
	"slices"
	"testing"

	"cinder/api"
)

// tight is just full, as soon as kept is made, and then big: both parts have no word left.
func tight(input ...int) api.Script {
	return api.Script{Input: input, Young: 20, Old: 20, Fuel: 200}
}

const (
	kept = "push 13; ints; store 9; "                    // 16 words, which go to the old part
	big  = "new Node; dup; push 9; ints; put Node.row; " // 20 words in all, of which the node is on the stack
	some = "new Error; pop; "                            // 4 words: there is room for them, if big is dead
	held = "new Error; pop; load 0; pop; null; return"   // an argument that is live
	lost = "null; store 0; new Error; pop; null; return" // an argument that is dead
)

// H3: what is live while a step makes a thing: what the states tell to be refs, in all frames, and what is locked.
func TestRootsOfSteps(t *testing.T) {
	for _, c := range []struct {
		what  string
		texts map[string]string
		picks []int
		full  bool
	}{
		{"nobody has it", texts("Object.main", kept+big+"pop; "+some+"return"), nil, false},
		{"it is on the stack", texts("Object.main", kept+big+some+"pop; return"), nil, true},
		{"it is in a local", texts("Object.main", kept+big+"store 0; "+some+"return"), nil, true},
		{"it is in the last local", texts("Object.main", "push 13; ints; store 0; "+big+"store 9; "+some+"return"), nil, true},
		{"it was in a local", texts("Object.main", kept+big+"store 0; null; store 0; "+some+"return"), nil, false},
		{"it is in a local that may be a row", texts("Object.main", kept+big+"store 0; read; zero a; push 0; ints; store 0; a:; "+some+"return"), nil, true},
		{"it is in a local that may be a number", texts("Object.main", kept+big+"store 0; read; zero a; push 1; store 0; a:; "+some+"return"), nil, false},
		{"it is in a local that may be null", texts("Object.main", kept+big+"store 0; read; zero a; null; store 0; a:; "+some+"return"), nil, true},
		{"it is on the stack, where a number may be", texts("Object.main", kept+big+"read; zero a; pop; push 1; a:; "+some+"pop; return"), nil, false},
		{"it is locked", texts("Object.main", kept+big+"lock; "+some+"return"), nil, true},
		{"it was locked", texts("Object.main", kept+big+"dup; lock; unlock; "+some+"return"), nil, false},
		{"it was locked twice, and unlocked once", texts("Object.main", kept+big+"dup; dup; lock; lock; dup; unlock; pop; "+some+"return"), nil, true},
		{"it is on the stack below a call", texts("Object.main", kept+big+"push 1; push 2; call Object.sum; pop; pop; return", "Object.sum", some+"push 0; return"), nil, true},
		{"it is in a local below a call", texts("Object.main", kept+big+"store 3; push 1; push 2; call Object.sum; pop; return", "Object.sum", some+"push 0; return"), nil, true},
		{"it went with a call", texts("Object.main", kept+big+"call Object.give; pop; return", "Object.give", held), nil, true},
		{"it went with a call, and was dropped there", texts("Object.main", kept+big+"call Object.give; pop; return", "Object.give", lost), nil, false},
		{"it comes back from a call", texts("Object.main", kept+big+"call Object.give; "+some+"pop; return"), nil, true},
		{"it is another thread's", texts("Object.main", kept+big+"push 0; spawn Object.work; "+some+"return"), nil, true},
		{"it was another thread's, which ended", texts("Object.main", kept+big+"push 0; spawn Object.work; "+some+"return"), []int{1}, false},
		{"another thread has locked it", texts("Object.main", kept+big+"push 0; spawn Object.work; nop; nop; nop; nop; nop; "+some+"return", "Object.work", "load 0; lock; null; store 0; a:; jump a"), []int{0, 1}, true},
		{"another thread had locked it, and ended", texts("Object.main", kept+big+"push 0; spawn Object.work; "+some+"return", "Object.work", "load 0; lock; return"), []int{1}, false},
		{"another thread makes something while it has locked it", texts("Object.main", kept+big+"push 0; spawn Object.work; "+some+"return", "Object.work", "load 0; lock; new Late; throw"), []int{1}, true},
		{"what throws had it", texts("Object.main", kept+big+"cast Leaf; pop; return"), nil, true},
		{"what throws had it no more", texts("Object.main", kept+big+"pop; null; length; pop; return"), nil, false},
		{"what throws had it below", texts("Object.main", kept+big+"push 1; push 0; div; pop; pop; return"), nil, true},
		{"what is called with it throws", texts("Object.main", kept+big+"null; swap; put Node.next; return"), nil, true},
	} {
		s := tight(0)
		s.Picks = c.picks
		x := mustRun(t, built(c.texts), s)
		if x.Full != c.full || c.full != slices.Contains(x.Ends, api.CodeFull) {
			t.Errorf("%s: %v", c.what, x)
		}
	}
}

// H5, H6: the full error is one, and what is put into it stays.
func TestFullError(t *testing.T) {
	catch := kept + big + "store 0; a:; " + some + "b:; return; c:; "
	for _, c := range []struct {
		what, text string
		want       []int
		end        int
	}{
		{"it has its code", catch + "get Error.code; print; return", []int{6}, 0},
		{"it has the first hash", catch + "hash; print; return", []int{1}, 0},
		{"it is of ErrorClass", catch + "dup; is Late; print; is Error; print; return", []int{0, 1}, 0},
		{"its code is changed, and stays", catch + "push 44; put Error.code; new Leaf; pop; return", nil, 44},
		{"it is thrown once more", catch + "throw", nil, 6},
		{"it is the same", catch + "pop; null; store 0; d:; push 500; ints; pop; e:; return; f:; hash; print; return; handle d e f Error", []int{1}, 0},
		{"if there is room again, another one is thrown", catch + "pop; null; store 0; null; length; pop; return", nil, 1},
	} {
		x := mustRun(t, mainOf(c.text+"; handle a b c Error"), tight())
		if !x.Full || !slices.Equal(printed(x), c.want) || !slices.Equal(x.Ends, []int{c.end}) {
			t.Errorf("%s: %v", c.what, x)
		}
	}
}

// H4, H5: rows that no part has room for, and those that one has.
func TestRowsThatAreTooLarge(t *testing.T) {
	for _, c := range []struct {
		young, old, length int
		full               bool
	}{{20, 20, 17, false}, {20, 20, 18, true}, {20, 30, 23, false}, {20, 30, 24, true}, {30, 20, 27, false}, {30, 20, 28, true}, {503, 20, 500, false}, {20, 507, 500, false}, {20, 506, 500, true}, {502, 20, 500, true}} {
		s := api.Script{Young: c.young, Old: c.old, Fuel: 9, Input: []int{c.length}}
		for _, op := range []string{"ints", "objects Leaf"} {
			x := mustRun(t, mainOf("read; "+op+"; length; print; return"), s)
			if x.Full != c.full || c.full != (x.Ends[0] == api.CodeFull) || !c.full && x.Printed[0].Number != c.length {
				t.Errorf("%v, %s: %v", c, op, x)
			}
		}
	}
}

// H3: that something was collected as a script tells is seen where it would be full otherwise.
func TestCollectsAsTold(t *testing.T) {
	three := "push 7; ints; store 0; push 17; ints; store 1; push 14; ints; store 2; return"
	even := "push 13; ints; store 0; push 17; ints; store 1; push 14; ints; store 2; return" // its Room is 0 at 3
	odd := "push 14; ints; store 0; push 17; ints; store 1; push 14; ints; store 2; return"  // and of this one it is -1
	again := "push 9; ints; store 0; push 0; store 0; " + three                              // its first row goes to the old part, at 3, and is dropped
	for _, c := range []struct {
		text         string
		small, great []int
		full         bool
	}{
		{three, nil, nil, true}, {three, []int{3}, nil, false}, {three, nil, []int{3}, false}, {three, []int{2}, nil, false}, {three, nil, []int{2}, false},
		{three, []int{1}, nil, true}, {three, nil, []int{1}, true}, {three, []int{5}, nil, true}, {three, nil, []int{5}, true}, {three, []int{-3, 99}, []int{-3, 99}, true},
		{three, []int{0, 9, 3, 3}, nil, false}, {three, []int{3}, []int{3}, false},
		{even, nil, nil, true}, {even, []int{3}, nil, false}, {even, nil, []int{3}, false}, {odd, nil, nil, true}, {odd, []int{3}, nil, true}, {odd, nil, []int{3}, true},
		{again, []int{3}, nil, true}, {again, []int{3, 8}, nil, true}, {again, []int{3}, []int{8}, false}, {again, []int{3, 8}, []int{8}, false}, {again, []int{8}, nil, false}, {again, nil, []int{8}, false},
	} {
		x := mustRun(t, mainOf(c.text), api.Script{Young: 40, Old: 20, Fuel: 100, Small: c.small, Great: c.great})
		if x.Full != c.full {
			t.Errorf("%s by %v, %v: %v", c.text, c.small, c.great, x)
		}
	}
}

// H3, H7: a run may have more roots than chapters 6 and 7 take: what is locked, and refs of all frames.
func TestManyRoots(t *testing.T) {
	main := "push 600; store 0; a:; new Object; lock; load 0; push 1; sub; dup; store 0; zero b; jump a; b:; " +
		"null; push 8; spawn Object.work; null; push 8; spawn Object.work; null; push 8; spawn Object.work; null; push 7; call Object.work; return"
	work := "null; store 2; null; store 3; null; store 4; null; store 5; null; store 6; null; store 7; null; store 8; null; store 9; null; null; null; null; null; null; null; " +
		"load 1; push 1; sub; dup; store 1; zero a; load 0; load 1; call Object.work; a:; new Object; hash; print; jump a"
	l := built(texts("Object.main", main, "Object.work", work))
	s := api.Script{Young: 200, Old: 2000, Fuel: api.MaxFuel, Picks: []int{0, 1, 2, 3}, Small: []int{5000, 9000}, Great: []int{7000, 11000}}
	x := mustRun(t, l, s)
	if x.Full || x.End != api.EndFuel || len(x.Printed) < 3000 || x.Printed[len(x.Printed)-1].Number != 601+len(x.Printed) {
		t.Errorf("Full is %v, End %d, Ends %v, %d lines", x.Full, x.End, x.Ends, len(x.Printed))
	}
}
