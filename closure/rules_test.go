package closure_test

import (
	"slices"
	"testing"

	"barrage/api"
	"barrage/closure"
)

// P5.5: at which ticks the rules allow to begin to close.
func TestP5_5Allowed(t *testing.T) {
	x := tub(5, ints(0, 0, 0, 130, 0, 0), ints(0, 0, 0, 0, 101, 0), ints(100, 100, 100, 100, 100, 100))
	for early, first := range ints(8, 7, 6, 5, 5, 5) {
		for delay := range 5 {
			x.Delay = delay
			var want []int
			for tick := first; tick <= 10-delay; tick++ {
				want = append(want, tick)
			}
			allowed(t, early, x, rules(1, early), want...)
			allowed(t, early, x, rules(2, early), want...)
			// The third history is never above the limit.
			allowed(t, early, x, rules(3, early))
		}
	}
	allowed(t, "at most", x, rules(1, 60), 5, 6)
	allowed(t, "more than there are", x, rules(8, 60))
	x.Delay = 0
	x.Histories[0], x.Histories[1] = x.Histories[1], x.Histories[0]
	allowed(t, "the first tick of any history", x, rules(2, 1), 7, 8, 9, 10)
	x.Limit = 99
	allowed(t, "from the beginning on", x, rules(3, 0), 5, 6, 7, 8, 9, 10)
	allowed(t, "of all", x, rules(4, 0))
	x.Limit = 130
	allowed(t, "at the limit", x, rules(1, 60))
	allowed(t, "the last tick", tub(0, ints(0, 101)), rules(1, 0), 1)
	allowed(t, "the first tick", tub(0, ints(0, 101)), rules(1, 1), 0, 1)
	x = tub(5, ints(0, 130))
	x.Delay = 2
	allowed(t, "closing never can begin", x, rules(1, 60))
	for _, tick := range wild() {
		if yes, e := closure.Allowed(tub(0, ints(0, 101)), rules(1, 60), tick); yes || e != api.OK {
			t.Errorf("%d: %v, %d", tick, yes, e)
		}
	}
}

// P5.5, P5.6: histories count that are high at some tick, each of them at another one.
func TestP5_5Count(t *testing.T) {
	x := tub(5, ints(0, 0, 130, 0, 0), ints(0, 0, 0, 130, 0), ints(0, 0, 0, 0, 0))
	for count := 1; count <= 8; count++ {
		d, e := closure.Decide(x, rules(count, 60))
		if (d.Plan != unclosed()) != (count <= 2) || e != api.OK {
			t.Errorf("%d: %v, %d", count, d, e)
		}
	}
	// It counts once that it is high, not how often.
	x = tub(5, ints(0, 130, 0, 130, 130), ints(0, 0, 0, 0, 0))
	decides(t, "twice high", x, rules(2, 60), decision(unclosed(), peaks(6, 130, 5, 0), nil))
}

// P5.6: the last tick that is allowed and holds for all histories, the peaks, and what rules out all later ticks.
func TestP5_6Decide(t *testing.T) {
	x := tub(5, ints(0, 20, 30, 130, 40, 10), ints(0, 0, 10, 10, 10, 101), ints(0, 70, 110, 0, 0, 0))
	x.Histories = x.Histories[:1]
	x.River = ints(1, 1, 1, 1, 1, 1)
	decides(t, "one history", x, rules(1, 5), decision(plan(7, 9), peaks(9, 40), witnesses(0, 8, 0, 8, 0, 8)))
	x.Delay = 2
	decides(t, "with a delay", x, rules(1, 5), decision(plan(5, 9), peaks(9, 40), witnesses(0, 8, 0, 8, 0, 8)))
	x.Delay = 3
	undecided(t, "too late", x, rules(1, 5))
	x.Delay = 1
	undecided(t, "too early", x, rules(1, 1))
	decides(t, "just in time", x, rules(1, 2), decision(plan(6, 9), peaks(9, 40), witnesses(0, 8, 0, 8, 0, 8)))
	x = tub(5, ints(0, 20, 30, 130, 40, 10), ints(0, 0, 10, 10, 10, 101), ints(0, 70, 110, 0, 0, 0))
	decides(t, "three histories", x, rules(1, 5), decision(plan(6, 11), peaks(6, 20, 5, 0, 6, 70), witnesses(2, 7, 0, 8, 0, 8, 0, 8)))
	decides(t, "that are high at other ticks", x, rules(3, 5), decision(plan(6, 11), peaks(6, 20, 5, 0, 6, 70), witnesses(2, 7, 0, 8, 0, 8, 0, 8)))
	decides(t, "not called for", x, rules(4, 5), decision(unclosed(), peaks(8, 130, 10, 101, 7, 110), nil))
	undecided(t, "only from the tick 7 on", x, rules(1, 0))
	x.Histories[0].Values[0] = 101
	undecided(t, "high from the first tick on", x, rules(1, 60))
	decides(t, "not called for", x, rules(8, 0), decision(unclosed(), peaks(8, 130, 10, 101, 7, 110), nil))
	x.Delay = 30
	undecided(t, "closing never can begin", x, rules(1, 60))
	decides(t, "closing never can begin", x, rules(4, 60), decision(unclosed(), peaks(8, 130, 10, 101, 7, 110), nil))
}

// P5.6: of several witnesses the first history counts, and in it the least tick.
func TestP5_6Later(t *testing.T) {
	x := tub(5, ints(0, 0, 0, 130, 130, 0), ints(0, 0, 130, 130, 0, 0))
	decides(t, "the second one is high first", x, rules(1, 5), decision(plan(6, 10), peaks(5, 0, 5, 0), witnesses(1, 7, 0, 8, 0, 8, 0, 8)))
	// A tick may be ruled out by the water that comes while the gates are shut: with 95 mm there may be 10 m3 more.
	x = tub(5, ints(0, 0, 95, 130, 110, 0), ints(0, 0, 95, 130, 0, 0))
	x.River = ints(0, 0, 8, 8, 0, 0)
	decides(t, "within", x, rules(1, 5), decision(plan(6, 10), peaks(9, 8, 9, 8), witnesses(0, 9, 0, 8, 0, 8, 0, 8)))
	// It may be ruled out by too much water, although the limit is above all levels that the basin can have.
	x = brim()
	x.Histories[0].Values = ints(0, 0, 0, 10, 26, 0)
	x.Limit, x.River = 25, ints(0, 0, 0, 30, 0, 0)
	decides(t, "too great", x, rules(1, 5), decision(plan(7, 10), peaks(9, 15), witnesses(0, 9, 0, 9, 0, 9)))
	undecided(t, "too great", x, rules(1, 1))
}

// P5.6: peaks are first ticks of the exact levels.
func TestP5_6Peaks(t *testing.T) {
	x := tub(5, ints(10, 10, 101, 0, 0, 0))
	peak := func(what string, river []int, at, level int) {
		t.Helper()
		x.River = river
		d, e := closure.Decide(x, rules(1, 5))
		if !slices.Equal(d.Peaks, peaks(at, level)) || d.Plan.Close != 6 || e != api.OK {
			t.Errorf("%s: %v, %d", what, d, e)
		}
	}
	// The gates shut at 6 and open at 8, so that there is a level of the basin at 7 alone.
	peak("the same level", ints(0, 0, 0, 0, 0, 0), 5, 10)
	peak("half a mm more", ints(0, 1, 0, 0, 0, 0), 7, 11)
	peak("a mm more", ints(0, 2, 0, 0, 0, 0), 7, 11)
	x.Histories[0].Values[4] = 11
	peak("between two whole levels", ints(0, 1, 0, 0, 0, 0), 9, 11)
	peak("at the first of two whole ones", ints(0, 2, 0, 0, 0, 0), 7, 11)
	x.Histories[0].Values = ints(10, 10, 101, 101, 101, 0)
	x.Basin.Rows = rows(0, 0, 1000, 10000)
	peak("always more", ints(0, 1, 1, 1, 0, 0), 9, 11)
	peak("more, and less again", ints(0, 1, 2, 0, 0, 0), 8, 11)
	x.Out = 1
	peak("less again", ints(0, 3, 2, 0, 0, 0), 8, 11)
	peak("less, and more again", ints(0, 3, 0, 2, 0, 0), 7, 11)
	peak("more again", ints(0, 2, 0, 3, 0, 0), 9, 11)
	peak("a whole level behind", ints(0, 9, 3, 0, 0, 0), 8, 11)
	peak("a whole level before", ints(0, 11, 0, 0, 0, 0), 7, 11)
	x.Histories[0].Values[5] = 11
	peak("a whole level outside", ints(0, 9, 1, 1, 0, 0), 10, 11)
	x.Histories[0].Values[5] = 10
	peak("a whole level below", ints(0, 0, 0, 0, 0, 0), 5, 10)
}

// good returns a decision about the task T, with three histories of which the second one is ruled out first.
func good() (api.ClTask, api.ClDecision) {
	x := estuary()
	x.Histories = append(x.Histories, series(10, 0, 100, 200, 900, 100, 0))
	return x, decision(plan(10, 15), peaks(14, 729, 14, 82, 14, 227), witnesses(0, 12, 0, 12, 0, 12, 0, 12))
}

// P5.7: what is wrong with a decision comes in its order: repaired one by one, each time the next one is told.
func TestP5_7Order(t *testing.T) {
	x, right := good()
	r := rules(2, 0)
	d := decision(plan(9, 15), nil, nil)
	for i, s := range []struct {
		repair func()
		at     int
		e      api.Errno
	}{
		{func() {}, 0, api.ErrArg},
		{func() { d.Plan = plan(11, 17) }, 0, api.ErrArg},
		{func() { d.Plan = plan(11, 16) }, 0, api.ErrArg},
		{func() { d.Peaks = make([]api.ClPeak, 2) }, 0, api.ErrArg},
		{func() { d.Peaks = make([]api.ClPeak, 4) }, 0, api.ErrArg},
		{func() { d.Peaks = make([]api.ClPeak, 3) }, 0, api.ClErrEarly},
		{func() { r.Early = 1 }, 0, api.ClErrHolds},           // the plan is not the one from 11, and does not hold
		{func() { d.Plan = plan(11, 15) }, 0, api.ClErrHolds}, // it does not hold for the first history
		{func() { d.Plan = plan(10, 15) }, 0, api.ClErrEarly}, // it is not allowed any more
		{func() { r.Early = 2 }, 0, api.ClErrPeak},            // the peaks are still missing
		{func() { d.Plan = plan(10, 16) }, 0, api.ClErrHolds}, // it holds, and opens too late
		{func() { d.Plan = right.Plan }, 0, api.ClErrPeak},
		{func() { d.Peaks[0] = right.Peaks[0] }, 1, api.ClErrPeak},
		{func() { d.Peaks[1] = right.Peaks[1] }, 2, api.ClErrPeak},
		{func() { d.Peaks[2] = right.Peaks[2] }, 0, api.ErrArg},
		{func() { d.Later = make([]api.ClWitness, 5) }, 0, api.ErrArg},
		{func() { d.Later = make([]api.ClWitness, 3) }, 0, api.ErrArg},
		{func() { d.Later = make([]api.ClWitness, 4) }, 0, api.ClErrLater},
		{func() { d.Later[0] = right.Later[0] }, 1, api.ClErrLater},
		{func() { d.Later[1] = right.Later[1] }, 2, api.ClErrLater},
		{func() { d.Later[3] = right.Later[3] }, 2, api.ClErrLater},
		{func() { d.Later[2] = right.Later[2] }, 0, api.OK},
	} {
		s.repair()
		accept(t, i, x, r, d, s.at, s.e)
	}
}

// P5.7: decisions not to close, and those that close although they should not.
func TestP5_7Unclosed(t *testing.T) {
	x, d := good()
	stay := decision(unclosed(), peaks(13, 2500, 10, 0, 13, 900), nil)
	accept(t, "called for", x, rules(2, 3), stay, 0, api.ClErrEarly)
	accept(t, "not called for", x, rules(3, 3), stay, 0, api.OK)
	accept(t, "closed", x, rules(3, 3), d, 0, api.ClErrEarly)
	accept(t, "closed", x, rules(2, 3), d, 0, api.OK)
	stay.Later = d.Later
	accept(t, "with witnesses", x, rules(3, 3), stay, 0, api.ErrArg)
	stay.Later = d.Later[:1]
	accept(t, "with a witness", x, rules(3, 3), stay, 0, api.ErrArg)
	for i := range stay.Peaks {
		stay = decision(unclosed(), peaks(13, 2500, 10, 0, 13, 900), nil)
		stay.Peaks[i].At++
		accept(t, "another peak", x, rules(3, 3), stay, i, api.ClErrPeak)
		stay.Peaks[i].At--
		stay.Peaks[i].Level--
		accept(t, "another peak", x, rules(3, 3), stay, i, api.ClErrPeak)
	}
	for _, p := range []api.ClPlan{plan(-1, 15), plan(10, -1), plan(-1, 0), plan(0, -1), {}, plan(10, 11), plan(15, 16)} {
		accept(t, p, x, rules(3, 3), decision(p, stay.Peaks, nil), 0, api.ErrArg)
	}
}

// P5.7: witnesses that rule out their ticks, whichever they are, and those that do not.
func TestP5_7Witness(t *testing.T) {
	x, d := good()
	for _, h := range append(wild(), 0, 1, 2, 3, 8) {
		for _, at := range append(wild(), 0, 9, 10, 11, 12, 13, 14, 15, 16) {
			for i, first := range ints(11, 12, 13, 14) {
				d.Later[i] = api.ClWitness{History: h, At: at}
				// The first history is high from 12 to 14, and so is the water if the gates shut then; the third one is at 13, and the water at 14, too, if they shut at 13.
				yes := h == 0 && 12 <= at && at <= 14 || h == 2 && at == 13 && first >= 12 || h == 2 && at == 14 && first == 12
				if yes {
					accept(t, d.Later[i], x, rules(1, 3), d, 0, api.OK)
				} else {
					accept(t, d.Later[i], x, rules(1, 3), d, i, api.ClErrLater)
				}
				d.Later[i] = api.ClWitness{At: 12}
			}
		}
	}
}

// P5.8: of the plans from all ticks that are allowed the last one of those that hold for most histories.
func TestP5_8Best(t *testing.T) {
	x := tub(5, ints(0, 20, 30, 130, 40, 10), ints(0, 0, 10, 10, 10, 101), ints(0, 70, 110, 0, 0, 0))
	bests(t, "all", x, rules(1, 5), plan(6, 11), nil, api.OK)
	bests(t, "all", x, rules(3, 1), plan(6, 11), nil, api.OK)
	bests(t, "not called for", x, rules(4, 5), unclosed(), ints(0, 1, 2), api.OK)
	bests(t, "too late for the third one", x, rules(1, 0), plan(7, 11), ints(2), api.OK)
	x.Histories[0].Values[0] = 101
	bests(t, "too late for the first one", x, rules(1, 0), plan(6, 11), ints(0), api.OK)
	x.Histories[2].Values[0] = 101
	bests(t, "only for the second one", x, rules(1, 0), plan(9, 11), ints(0, 2), api.OK)
	x.Histories[1].Values[0] = 101
	bests(t, "for none", x, rules(1, 0), plan(10, 11), ints(0, 1, 2), api.OK)
	x.Delay = 2
	bests(t, "for none", x, rules(1, 0), plan(8, 11), ints(0, 1, 2), api.OK)
	x.Delay = 6
	bests(t, "no tick", x, rules(1, 60), api.ClPlan{}, nil, api.ErrDown)
	bests(t, "not called for", x, rules(8, 60), unclosed(), ints(0, 1, 2), api.OK)
	x = tub(5, ints(0, 0, 0, 101, 0), ints(100, 100, 100, 100, 100))
	x.Delay = 3
	bests(t, "only for the second one", x, rules(1, 60), plan(6, 10), ints(0), api.OK)
	bests(t, "too early", x, rules(1, 1), api.ClPlan{}, nil, api.ErrDown)
	bests(t, "not called for", x, rules(2, 1), unclosed(), ints(0), api.OK)
	x.Limit = 101
	bests(t, "none is high", x, rules(1, 1), unclosed(), nil, api.OK)
	// Of those that hold for as many the last one, also if it is for others.
	x = tub(5, ints(0, 0, 130, 0, 0, 0), ints(130, 0, 0, 0, 0, 0), ints(0, 90, 90, 0, 130, 0))
	x.River = ints(60, 60, 60, 60, 60, 60)
	x.Delay = 1
	holds(t, "for the first one", x, plan(5, 10), true, false, false)
	holds(t, "for the third one", x, plan(7, 10), false, false, true)
	bests(t, "as many", x, rules(1, 60), plan(7, 10), ints(0, 1), api.OK)
}
