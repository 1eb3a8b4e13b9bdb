package closure

import (
	"strconv"

	"barrage/api"
)

// fault is what is wrong with a decision, and the index of what has it.
type fault struct {
	at int
	e  api.Errno
}

func (f fault) Error() string {
	return "error " + strconv.Itoa(int(f.e)) + " at " + strconv.Itoa(f.at)
}

// need panics with a fault unless ok.
func need(ok bool, at int, e api.Errno) {
	if !ok {
		panic(fault{at, e})
	}
}

// judge is a task with rules, and a decision that is checked; nothing is sought in it.
type judge struct {
	ruled
	api.ClDecision
}

// verdict returns the first thing that is wrong with the decision.
func (j judge) verdict() (at int, e api.Errno) {
	defer func() {
		if f, ok := recover().(fault); ok {
			at, e = f.at, f.e
		}
	}()
	// Each check may rely on those before it.
	checks := [...]func(){j.form, j.early, j.closing, j.tops, j.ticks, j.later}
	for _, check := range checks {
		check()
	}
	return 0, api.OK
}

// closes reports whether the gates are closed by the plan.
func (j judge) closes() bool { return j.Plan != unclosed() }

// form checks that the decision has a plan, and as many peaks as there are histories.
func (j judge) form() {
	need(j.isPlan(j.Plan) && len(j.Peaks) == len(j.Histories), 0, api.ErrArg)
}

// early checks that the rules allow the plan.
func (j judge) early() {
	if j.closes() {
		need(j.allows(j.Plan.Close), 0, api.ClErrEarly)
	} else {
		need(!j.called(), 0, api.ClErrEarly)
	}
}

// closing checks that the plan is the one from its tick, and holds for all histories.
func (j judge) closing() {
	if !j.closes() {
		return
	}
	need(j.Plan == j.plan(j.Plan.Close), 0, api.ClErrHolds)
	for i := range j.Histories {
		need(j.holds(i, j.Plan), 0, api.ClErrHolds)
	}
}

// tops checks the peaks.
func (j judge) tops() {
	for i, p := range j.Peaks {
		need(p == j.peak(i, j.Plan), i, api.ClErrPeak)
	}
}

// ticks checks that there is a witness for each later tick at which closing can begin.
func (j judge) ticks() {
	n := 0
	if j.closes() {
		n = j.last - j.Plan.Close
	}
	need(len(j.Later) == n, 0, api.ErrArg)
}

// later checks that each witness rules out its tick.
func (j judge) later() {
	for i, w := range j.Later {
		need(j.rulesOut(w, j.Plan.Close+1+i), i, api.ClErrLater)
	}
}

// rulesOut reports whether a witness rules out to begin to close at a tick.
func (j judge) rulesOut(w api.ClWitness, tick int) bool {
	if !j.isHistory(w.History) || !between(w.At, j.from, j.end-1) {
		return false
	}
	return j.inner(w.History, j.plan(tick))[w.At-j.from].above(j.Limit)
}
