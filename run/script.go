package run

import (
	"cinder/api"
	"cinder/fault"
	"cinder/link"
)

// maxScript is how many numbers a list of a script may have, minPart how many words a part of a run's heap must have.
const (
	maxScript = 1000
	minPart   = 20
)

// script is what a run goes by.
type script struct{ api.Script }

// checkScript gives up, unless classes may be run by a script.
func checkScript(k api.Linked, s api.Script) {
	fault.Demand(link.Check(k) == api.OK, api.ErrState)
	l := script{s}
	fault.Ask([]fault.Question{
		{Is: l.listsAreShort, Else: api.ErrMany},
		{Is: l.numbersMayBe, Else: api.ErrRange},
	})
}

func (s script) listsAreShort() bool {
	return max(len(s.Input), len(s.Picks), len(s.Small), len(s.Great)) <= maxScript
}

func (s script) numbersMayBe() bool {
	return min(s.Young, s.Old) >= minPart && max(s.Young, s.Old) <= api.MaxPart && s.Fuel >= 0 && s.Fuel <= api.MaxFuel
}

// pick one of as many as may step; of a number below 0 what it lacks to 0 counts.
func (s script) pick(step, many int) int {
	if len(s.Picks) == 0 {
		return 0
	}
	n := s.Picks[step%len(s.Picks)] % many
	return max(n, -n)
}
