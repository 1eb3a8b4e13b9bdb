package closure_test

import (
	"math/big"
	"math/rand"
	"slices"
	"strconv"
	"testing"

	"barrage/api"
	"barrage/basin"
	"barrage/closure"
)

// What is here follows the definitions of the chapter alone, with exact levels as fractions, and knows nothing of how the package does it.

// rat returns a whole number as a fraction.
func rat(n int) *big.Rat { return new(big.Rat).SetInt64(int64(n)) }

// spanOf returns a fraction, rounded down and up.
func spanOf(x *big.Rat) api.Span {
	down := func(x *big.Rat) int { return int(new(big.Int).Div(x.Num(), x.Denom()).Int64()) } // the denominator is above 0
	return sp(down(x), -down(new(big.Rat).Neg(x)))
}

// exact returns the exact level of a volume.
func exact(b api.BsBasin, volume int) *big.Rat {
	last := 0
	for i, r := range b.Rows {
		if r.Volume <= volume {
			last = i
		}
	}
	last = min(last, len(b.Rows)-2)
	lo, hi := b.Rows[last], b.Rows[last+1]
	x := big.NewRat(int64(hi.Level-lo.Level), int64(hi.Volume-lo.Volume))
	x.Mul(x, rat(volume-lo.Volume))
	return x.Add(x, rat(lo.Level))
}

// outer returns the level outside in a history at a tick.
func outer(t api.ClTask, history, tick int) int {
	s := t.Histories[history]
	return s.Values[tick-s.From]
}

// insideOf returns the inner level in a history, with a plan, at each tick; nil where it is too great.
func insideOf(t api.ClTask, history int, p api.ClPlan) []*big.Rat {
	var out []*big.Rat
	var state api.BsState
	shut, great := p.Close+t.Delay, false
	for _, tick := range ticksOf(t) {
		if p.Close >= 0 && tick == shut {
			state = api.BsState{Volume: t.Basin.Rows[0].Volume, Filled: t.Filled}
			if at := outer(t, history, tick); at >= t.Basin.Rows[0].Level {
				state.Volume, _ = basin.Volume(t.Basin, at)
			}
		}
		if p.Close < 0 || tick <= shut || tick >= p.Open {
			out = append(out, rat(outer(t, history, tick)))
			continue
		}
		before := api.BsTick{Outer: outer(t, history, tick-1), River: t.River[tick-1-t.Histories[0].From], Out: t.Out}
		if !great {
			var e api.Errno
			state, _, e = basin.Step(t.Basin, state, before)
			great = e != api.OK
		}
		if great {
			out = append(out, nil)
		} else {
			out = append(out, exact(t.Basin, state.Volume))
		}
	}
	return out
}

// isAbove reports whether an inner level is above a limit.
func isAbove(x *big.Rat, limit int) bool { return x == nil || x.Cmp(rat(limit)) > 0 }

// keeps reports whether a plan holds for a history.
func keeps(t api.ClTask, history int, p api.ClPlan) bool {
	return !slices.ContainsFunc(insideOf(t, history, p), func(x *big.Rat) bool { return isAbove(x, t.Limit) })
}

// isHigh reports whether a history is high at a tick.
func isHigh(t api.ClTask, history, tick int) bool { return outer(t, history, tick) > t.Limit }

// isEverHigh reports whether a history is high at some tick.
func isEverHigh(t api.ClTask, history int) bool {
	return slices.ContainsFunc(ticksOf(t), func(tick int) bool { return isHigh(t, history, tick) })
}

// isQuietFrom reports whether no history is high from a tick on.
func isQuietFrom(t api.ClTask, from int) bool {
	for h := range t.Histories {
		for _, tick := range ticksOf(t) {
			if tick >= from && isHigh(t, h, tick) {
				return false
			}
		}
	}
	return true
}

// quietOf returns the quiet tick.
func quietOf(t api.ClTask) int {
	tick := t.Histories[0].From
	for !isQuietFrom(t, tick) {
		tick++
	}
	return tick
}

// canBegin reports whether closing can begin at a tick.
func canBegin(t api.ClTask, tick int) bool {
	first := t.Histories[0]
	return first.From <= tick && tick <= first.From+len(first.Values)-1-t.Delay
}

// planFrom returns the plan from a tick.
func planFrom(t api.ClTask, tick int) api.ClPlan {
	open := quietOf(t)
	if shut := tick + t.Delay; open <= shut {
		open = shut + 1
	}
	return plan(tick, open)
}

// isCalled reports whether closing is called for.
func isCalled(t api.ClTask, r api.ClRules) bool {
	n := r.Count
	for h := range t.Histories {
		if isEverHigh(t, h) {
			n--
		}
	}
	return n <= 0
}

// isAllowed reports whether the rules allow to begin to close at a tick.
func isAllowed(t api.ClTask, r api.ClRules, tick int) bool {
	if !isCalled(t, r) || !canBegin(t, tick) {
		return false
	}
	for _, high := range ticksOf(t) {
		for h := range t.Histories {
			if isHigh(t, h, high) {
				return tick >= high-r.Early
			}
		}
	}
	return false
}

// peaksOf returns the peaks of all histories, with a plan.
func peaksOf(t api.ClTask, p api.ClPlan) []api.ClPeak {
	var out []api.ClPeak
	for h := range t.Histories {
		l := insideOf(t, h, p)
		top := l[0]
		for _, x := range l {
			if x.Cmp(top) > 0 {
				top = x
			}
		}
		at := slices.IndexFunc(l, func(x *big.Rat) bool { return x.Cmp(top) == 0 })
		out = append(out, api.ClPeak{At: ticksOf(t)[at], Level: spanOf(top).Hi})
	}
	return out
}

// firstWitness returns the first witness that rules out a tick, if there is one.
func firstWitness(t api.ClTask, tick int) []api.ClWitness {
	for h := range t.Histories {
		for i, x := range insideOf(t, h, planFrom(t, tick)) {
			if isAbove(x, t.Limit) {
				return witnesses(h, ticksOf(t)[i])
			}
		}
	}
	return nil
}

// decisionOf returns the decision of a task.
func decisionOf(t api.ClTask, r api.ClRules) (api.ClDecision, api.Errno) {
	if !isCalled(t, r) {
		return decision(unclosed(), peaksOf(t, unclosed()), nil), api.OK
	}
	var d api.ClDecision
	e := api.ErrDown
	for _, tick := range ticksOf(t) {
		if !canBegin(t, tick) {
			continue
		}
		w := firstWitness(t, tick)
		if w == nil && isAllowed(t, r, tick) {
			p := planFrom(t, tick)
			d, e = decision(p, peaksOf(t, p), nil), api.OK
		}
		d.Later = append(d.Later, w...)
	}
	if e != api.OK {
		return api.ClDecision{}, e
	}
	return d, api.OK
}

// bestOf returns what Best has to return.
func bestOf(t api.ClTask, r api.ClRules) (p api.ClPlan, not []int, e api.Errno) {
	if !isCalled(t, r) {
		for h := range t.Histories {
			if isEverHigh(t, h) {
				not = append(not, h)
			}
		}
		return unclosed(), not, api.OK
	}
	e = api.ErrDown
	for _, tick := range ticksOf(t) {
		if !isAllowed(t, r, tick) {
			continue
		}
		var l []int
		for h := range t.Histories {
			if !keeps(t, h, planFrom(t, tick)) {
				l = append(l, h)
			}
		}
		if e != api.OK || len(l) <= len(not) {
			p, not, e = planFrom(t, tick), l, api.OK
		}
	}
	return p, not, e
}

// laterOf returns how many ticks there are after that of a plan at which closing can begin.
func laterOf(t api.ClTask, p api.ClPlan) int {
	n := 0
	for _, tick := range ticksOf(t) {
		if p.Close >= 0 && tick > p.Close && canBegin(t, tick) {
			n++
		}
	}
	return n
}

// acceptOf returns what Accept has to return.
func acceptOf(t api.ClTask, r api.ClRules, d api.ClDecision) (int, api.Errno) {
	closed := d.Plan != unclosed()
	if !slices.Contains(plansOf(t), d.Plan) || len(d.Peaks) != len(t.Histories) {
		return 0, api.ErrArg
	}
	if closed && !isAllowed(t, r, d.Plan.Close) || !closed && isCalled(t, r) {
		return 0, api.ClErrEarly
	}
	if closed && (d.Plan != planFrom(t, d.Plan.Close) || firstWitness(t, d.Plan.Close) != nil) {
		return 0, api.ClErrHolds
	}
	for i, p := range peaksOf(t, d.Plan) {
		if d.Peaks[i] != p {
			return i, api.ClErrPeak
		}
	}
	if len(d.Later) != laterOf(t, d.Plan) {
		return 0, api.ErrArg
	}
	for i, w := range d.Later {
		at := slices.Index(ticksOf(t), w.At)
		if at < 0 || w.History < 0 || w.History >= len(t.Histories) {
			return i, api.ClErrLater
		}
		if !isAbove(insideOf(t, w.History, planFrom(t, d.Plan.Close+i+1))[at], t.Limit) {
			return i, api.ClErrLater
		}
	}
	return 0, api.OK
}

// spansOf returns what Inner has to return.
func spansOf(t api.ClTask, history int, p api.ClPlan) ([]api.Span, api.Errno) {
	var out []api.Span
	for _, x := range insideOf(t, history, p) {
		if x == nil {
			return nil, api.ErrLong
		}
		out = append(out, spanOf(x))
	}
	return out, api.OK
}

// lastOf returns what Last has to return.
func lastOf(t api.ClTask, history int) (int, api.Errno) {
	t.Histories = []api.Series{t.Histories[history]}
	for _, tick := range slices.Backward(ticksOf(t)) {
		if canBegin(t, tick) && keeps(t, 0, planFrom(t, tick)) {
			return tick, api.OK
		}
	}
	return 0, api.ErrDown
}

// comparePlans compares what the functions with a plan return with the model.
func comparePlans(t *testing.T, x api.ClTask, count map[string]int) {
	t.Helper()
	for _, p := range plansOf(x) {
		var want []bool
		for h := range x.Histories {
			want = append(want, keeps(x, h, p))
			l, e := spansOf(x, h, p)
			inner(t, x, x, h, p, l, e)
			if e != api.OK {
				count["too great"]++
			}
		}
		holds(t, x, x, p, want...)
	}
}

// mixed returns a decision that is another one than d, most times.
func mixed(r *rand.Rand, x api.ClTask, d api.ClDecision) api.ClDecision {
	d = copyDecision(d)
	plans := plansOf(x)
	for range 1 + r.Intn(2) {
		switch r.Intn(7) {
		case 0:
			d.Plan = plans[r.Intn(len(plans))]
		case 1:
			d.Plan.Close += r.Intn(3) - 1
		case 2:
			d.Plan.Open += r.Intn(3) - 1
		case 3:
			d.Peaks[r.Intn(len(d.Peaks))].At += r.Intn(3) - 1
		case 4:
			d.Peaks[r.Intn(len(d.Peaks))].Level += r.Intn(3) - 1
		case 5:
			if len(d.Later) > 0 {
				d.Later[r.Intn(len(d.Later))].History += r.Intn(3) - 1
			}
		case 6:
			if len(d.Later) > 0 {
				d.Later[r.Intn(len(d.Later))].At += r.Intn(5) - 2
			}
		}
	}
	if r.Intn(10) == 0 {
		d.Later = append(d.Later, api.ClWitness{})
	}
	return d
}

// compareRules compares what the functions with rules return with the model.
func compareRules(t *testing.T, r *rand.Rand, x api.ClTask, law api.ClRules, count map[string]int) {
	t.Helper()
	for _, tick := range append(ticksOf(x), x.Histories[0].From-1, x.Histories[0].From+len(x.River)) {
		if yes, e := closure.Allowed(x, law, tick); yes != isAllowed(x, law, tick) || e != api.OK {
			t.Fatalf("%+v, %v: %d: %v, %d", x, law, tick, yes, e)
		}
	}
	p, not, e := bestOf(x, law)
	bests(t, x, x, law, p, not, e)
	d, e := decisionOf(x, law)
	if e != api.OK {
		undecided(t, x, x, law)
		count["none"]++
		return
	}
	decides(t, x, x, law, d)
	switch {
	case d.Plan == unclosed():
		count["unclosed"]++
	default:
		count["later"]++
	}
	for range 6 {
		other := mixed(r, x, d)
		at, e := acceptOf(x, law, other)
		accept(t, other, x, law, other, at, e)
		count[strconv.Itoa(int(e))]++
	}
}

// P5.2 to P5.8: all functions do what the definitions say, in small tasks, and in those with too much water.
func TestP5_6Model(t *testing.T) {
	r := rand.New(rand.NewSource(506))
	count := map[string]int{}
	for i := range 2000 {
		x := anyTask(r)
		if i%5 == 0 {
			x = fullTask(r)
		}
		quiet(t, x, x, quietOf(x))
		for _, tick := range ticksOf(x) {
			if canBegin(x, tick) {
				planned(t, x, tick, planFrom(x, tick), api.OK)
			} else {
				planned(t, x, tick, api.ClPlan{}, api.ErrRange)
			}
		}
		for h := range x.Histories {
			n, e := lastOf(x, h)
			last(t, x, x, h, n, e)
		}
		comparePlans(t, x, count)
		compareRules(t, r, x, anyRules(r), count)
		if t.Failed() {
			t.FailNow()
		}
	}
	for what, least := range map[string]int{"too great": 500, "none": 300, "unclosed": 300, "later": 250, "0": 500, "2": 500, "150": 300, "151": 300, "152": 500, "153": 150} {
		if count[what] < least {
			t.Errorf("%s: only %d times", what, count[what])
		}
	}
}
