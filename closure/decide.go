package closure

import (
	"iter"
	"slices"

	"barrage/api"
)

// ruled is a task, and the rules by which is decided about it.
type ruled struct {
	task
	api.ClRules
}

// readRuled returns a task with rules, or the error of both.
func readRuled(t api.ClTask, r api.ClRules) (ruled, api.Errno) {
	k, e := read(t)
	switch {
	case e != api.OK:
		return ruled{}, e
	case !areRules(r):
		return ruled{}, api.ErrRange
	}
	return ruled{k, r}, api.OK
}

// called reports whether closing is called for.
func (k ruled) called() bool {
	n := 0
	for _, tick := range k.highs {
		if tick >= 0 {
			n++
		}
	}
	return n >= k.Count
}

// allows reports whether the rules allow to begin to close at a tick.
func (k ruled) allows(tick int) bool {
	near := func(high int) bool { return high >= 0 && tick >= high-k.Early }
	return k.called() && k.canBegin(tick) && slices.ContainsFunc(k.highs, near)
}

// allowed yields the ticks at which the rules allow to begin to close, the last one first.
func (k ruled) allowed() iter.Seq[int] {
	return func(yield func(int) bool) {
		for tick := range k.starts() {
			// If one is too early, those before it are, too.
			if !k.allows(tick) || !yield(tick) {
				return
			}
		}
	}
}

// witness returns what rules out a plan; false, if nothing does.
func (k ruled) witness(p api.ClPlan) (api.ClWitness, bool) {
	for i := range k.Histories {
		if at := k.breach(i, p); at >= 0 {
			return api.ClWitness{History: i, At: at}, true
		}
	}
	return api.ClWitness{}, false
}

// decide returns the decision of the task.
func (k ruled) decide() (api.ClDecision, api.Errno) {
	if !k.called() {
		return api.ClDecision{Plan: unclosed(), Peaks: k.peaks(unclosed())}, api.OK
	}
	var later []api.ClWitness
	for tick := range k.allowed() {
		p := k.plan(tick)
		w, ruledOut := k.witness(p)
		if !ruledOut {
			slices.Reverse(later) // they were found from the last tick on
			return api.ClDecision{Plan: p, Peaks: k.peaks(p), Later: later}, api.OK
		}
		later = append(later, w)
	}
	return api.ClDecision{}, api.ErrDown
}

// best returns the last plan of those that hold for most histories, and those for which it does not hold.
func (k ruled) best() (p api.ClPlan, not []int, e api.Errno) {
	if !k.called() {
		// Not closed, it does not hold for the histories that are high.
		return unclosed(), k.fails(unclosed()), api.OK
	}
	e = api.ErrDown
	for tick := range k.allowed() {
		fails := k.fails(k.plan(tick))
		if e != api.OK || len(fails) < len(not) {
			p, not, e = k.plan(tick), fails, api.OK
		}
	}
	return p, not, e
}
