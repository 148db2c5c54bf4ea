package fault_test

import (
	"testing"

	"cinder/api"
	"cinder/fault"
)

func TestCaughtTellsWhatWasGivenUpWith(t *testing.T) {
	if f := fault.Caught(func() {}); f != (api.Fault{}) {
		t.Errorf("nothing was wrong: %v", f)
	}
	went := false
	f := fault.Caught(func() {
		fault.Demand(true, api.ErrForm)
		fault.DemandAt(true, api.ErrForm, 3)
		fault.DemandAt(false, api.ErrKind, 4)
		went = true
	})
	if want := (api.Fault{Err: api.ErrKind, At: 4}); f != want || went {
		t.Errorf("got %v, want %v; it went on: %v", f, want, went)
	}
	if f := fault.Caught(func() { fault.Demand(false, api.ErrNone) }); f != (api.Fault{Err: api.ErrNone}) {
		t.Errorf("without a byte: %v", f)
	}
}

func TestMadeIsNothingIfItGivesUp(t *testing.T) {
	if n, f := fault.Made(func() int { return 7 }); n != 7 || f != (api.Fault{}) {
		t.Errorf("nothing was wrong: %d, %v", n, f)
	}
	n, f := fault.Made(func() int {
		fault.Demand(false, api.ErrState)
		return 7
	})
	if n != 0 || f != (api.Fault{Err: api.ErrState}) {
		t.Errorf("got %d, %v", n, f)
	}
}

func TestCaughtHidesNoOtherPanic(t *testing.T) {
	defer func() {
		if p := recover(); p != "other" {
			t.Errorf("got %v", p)
		}
	}()
	fault.Caught(func() { panic("other") })
}

func TestAskGivesUpAtTheFirstNo(t *testing.T) {
	asked := 0
	says := func(is bool) func() bool {
		return func() bool { asked++; return is }
	}
	f := fault.Caught(func() {
		fault.Ask([]fault.Question{{Is: says(true), Else: api.ErrForm}, {Is: says(false), Else: api.ErrTwice}, {Is: says(false), Else: api.ErrKind}})
	})
	if f != (api.Fault{Err: api.ErrTwice}) || asked != 2 {
		t.Errorf("got %v, by %d questions", f, asked)
	}
	if f := fault.Caught(func() { fault.Ask([]fault.Question{{Is: says(true), Else: api.ErrForm}}) }); f != (api.Fault{}) {
		t.Errorf("nothing was wrong: %v", f)
	}
}
