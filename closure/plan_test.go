package closure_test

import (
	"slices"
	"testing"

	"barrage/api"
	"barrage/closure"
)

// P5.2: the quiet tick is behind the last tick at which any history is high; at the limit none is.
func TestP5_2Quiet(t *testing.T) {
	for what, c := range map[string]struct {
		l    [][]int
		want int
	}{
		"low":            {[][]int{{0, 0, 0}}, 7},
		"at the limit":   {[][]int{{100, 100, 100}}, 7},
		"at first":       {[][]int{{101, 100, 100}}, 8},
		"in the middle":  {[][]int{{0, 101, 100}}, 9},
		"at last":        {[][]int{{0, 0, 101}}, 10},
		"always":         {[][]int{{101, 101, 101}}, 10},
		"twice":          {[][]int{{101, 0, 101, 0, 0}}, 10},
		"the second one": {[][]int{{101, 0, 0, 0}, {0, 0, 101, 0}}, 10},
		"the first one":  {[][]int{{0, 0, 101, 0}, {101, 0, 0, 0}, {0, 0, 0, 0}}, 10},
		"one tick":       {[][]int{{101}}, 8},
		"one low tick":   {[][]int{{100}}, 7},
	} {
		quiet(t, what, tub(7, c.l...), c.want)
	}
	quiet(t, "the first tick", tub(0, ints(0, 101)), 2)
	quiet(t, "no tick", tub(200000, ints(101)), 200001)
	x := tub(7, ints(0, 50, 0))
	x.Limit = 49
	quiet(t, "another limit", x, 9)
}

// P5.2: the plan from each tick at which closing can begin; from no other one.
func TestP5_2Plan(t *testing.T) {
	x := tub(7, ints(0, 0, 101, 0, 0), ints(101, 0, 0, 0, 0))
	for delay, want := range [][]api.ClPlan{
		{plan(7, 10), plan(8, 10), plan(9, 10), plan(10, 11), plan(11, 12)},
		{plan(7, 10), plan(8, 10), plan(9, 11), plan(10, 12)},
		{plan(7, 10), plan(8, 11), plan(9, 12)},
		{plan(7, 11), plan(8, 12)},
		{plan(7, 12)},
		{},
		{},
	} {
		x.Delay = delay
		for i, p := range want {
			planned(t, x, 7+i, p, api.OK)
		}
		for _, at := range append(wild(), 0, 5, 6, 7+len(want), 8+len(want), 12, 13) {
			planned(t, x, at, api.ClPlan{}, api.ErrRange)
		}
	}
	x.Delay = 30
	planned(t, x, 7, api.ClPlan{}, api.ErrRange)
	// Closing that begins behind the quiet tick, or that nothing calls for, is as short as it can be.
	planned(t, tub(0, ints(0, 0, 0)), 0, plan(0, 1), api.OK)
	planned(t, tub(0, ints(0, 0, 0)), 2, plan(2, 3), api.OK)
	planned(t, tub(200000, ints(101)), 200000, plan(200000, 200001), api.OK)
}

// P5.3: which plans a task has.
func TestP5_3Range(t *testing.T) {
	x := tub(7, ints(0, 0, 101, 0, 0), ints(1, 2, 3, 4, 5))
	for _, delay := range ints(0, 1, 2, 4, 5, 30) {
		x.Delay = delay
		plans := plansOf(x)
		for _, c := range append(wild(), 0, 6, 7, 8, 9, 10, 11, 12, 13) {
			for _, o := range append(wild(), 0, 6, 7, 8, 9, 10, 11, 12, 13) {
				p, want := plan(c, o), api.ErrRange
				if slices.Contains(plans, p) {
					want = api.OK
				}
				_, e := closure.Inner(x, 1, p)
				l, f := closure.Holds(x, p)
				if e != want || f != want || (len(l) != 2) == (want == api.OK) {
					t.Errorf("delay %d: %v: %d, %v, %d; not %d", delay, p, e, l, f, want)
				}
				for _, h := range append(wild(), 2, 3, 8) {
					inner(t, "another history", x, h, p, nil, api.ErrNone)
				}
			}
		}
	}
}

// P5.3: the level inside is the one outside, but between the tick at which the gates shut and the one at which they open.
func TestP5_3Inner(t *testing.T) {
	x := tub(5, ints(10, 20, 130, 150, 40, 30), ints(-5, -7, 0, 0, 0, -9))
	x.River = ints(1, 3, 5, 7, 9, 11)
	// With 20 mm outside there are 40 m3; 3, 5, 7 and 9 more of them make 43, 48, 55 and 64.
	for _, delay := range ints(0, 1) {
		x.Delay = delay
		first := 6 - delay
		inner(t, delay, x, 0, plan(first, 7), whole(10, 20, 130, 150, 40, 30), api.OK)
		inner(t, delay, x, 0, plan(first, 8), []api.Span{sp(10, 10), sp(20, 20), sp(21, 22), sp(150, 150), sp(40, 40), sp(30, 30)}, api.OK)
		inner(t, delay, x, 0, plan(first, 9), []api.Span{sp(10, 10), sp(20, 20), sp(21, 22), sp(24, 24), sp(40, 40), sp(30, 30)}, api.OK)
		inner(t, delay, x, 0, plan(first, 11), []api.Span{sp(10, 10), sp(20, 20), sp(21, 22), sp(24, 24), sp(27, 28), sp(32, 32)}, api.OK)
		// A level below the first row is one of the basin that is empty, but not before there is a tick behind it.
		inner(t, delay, x, 1, plan(first, 11), []api.Span{sp(-5, -5), sp(-7, -7), sp(1, 2), sp(4, 4), sp(7, 8), sp(12, 12)}, api.OK)
		inner(t, delay, x, 1, plan(first, 8), []api.Span{sp(-5, -5), sp(-7, -7), sp(1, 2), sp(0, 0), sp(0, 0), sp(-9, -9)}, api.OK)
	}
	inner(t, "unclosed", x, 0, unclosed(), whole(10, 20, 130, 150, 40, 30), api.OK)
	inner(t, "unclosed", x, 1, unclosed(), whole(-5, -7, 0, 0, 0, -9), api.OK)
	x.Delay = 5
	inner(t, "a long delay", x, 0, plan(5, 11), whole(10, 20, 130, 150, 40, 30), api.OK)
}

// P5.3: what there is in the basin as the gates shut is whole m3, the level then is the one outside; what runs off, leaks and is filled counts.
func TestP5_3Water(t *testing.T) {
	x := tub(5, ints(1, 60, 60))
	x.Basin.Rows = rows(0, 0, 3, 10, 1000, 9000)
	inner(t, "3 m3 at the level 1", x, 0, plan(5, 8), []api.Span{sp(1, 1), sp(0, 1), sp(0, 1)}, api.OK)
	x.Basin.Rows = rows(0, 7, 1000, 2007)
	inner(t, "7 m3 at the level 0", x, 0, plan(5, 8), whole(1, 1, 1), api.OK)
	x.Histories[0].Values[0] = -100
	inner(t, "7 m3 below it", x, 0, plan(5, 8), whole(-100, 0, 0), api.OK)
	x = tub(5, ints(50, 60, 0, 80))
	x.Out, x.River = 3, ints(0, 20, 1, 0)
	inner(t, "Out", x, 0, plan(5, 9), []api.Span{sp(50, 50), sp(48, 49), sp(57, 57), sp(56, 56)}, api.OK)
	x.Out, x.Basin.Leak = 0, 1
	// 100 m3, and 20 and 10 (80 - 50) more, less 30 (there are 130 m3, at 65 mm, with 60 outside).
	x.River, x.Histories[0].Values = ints(20, 10, 0, 0), ints(50, 90, 0, 80)
	inner(t, "Leak", x, 0, plan(5, 9), []api.Span{sp(50, 50), sp(55, 55), sp(75, 75), sp(37, 38)}, api.OK)
	x = tub(5, ints(50, 50, 50, 50))
	x.Basin.Polders = []api.BsPolder{{Name: "a", Sill: 40, Take: 1, Room: 14}, {Name: "b", Sill: 45, Take: 1, Room: 1000}}
	x.Filled = ints(0, 1000)
	inner(t, "an empty polder", x, 0, plan(5, 9), []api.Span{sp(50, 50), sp(45, 45), sp(43, 43), sp(43, 43)}, api.OK)
	x.Filled = ints(10, 1000)
	inner(t, "a polder", x, 0, plan(5, 9), whole(50, 48, 48, 48), api.OK)
	x.Filled = ints(14, 998)
	inner(t, "the other one", x, 0, plan(5, 9), whole(50, 49, 49, 49), api.OK)
}

// brim returns a task with a basin in which there is room for 20 m3 more at the level 10, and 8 of them more in each tick.
func brim() api.ClTask {
	x := tub(5, ints(10, 10, 10, 10, 10, 10))
	x.Basin.Rows = rows(0, 999999960, 10, 999999980)
	x.River = slices.Repeat(ints(8), 6)
	x.Limit = 20000
	return x
}

// P5.3: with too much water the level is too great, from the next tick on until the gates open.
func TestP5_3TooGreat(t *testing.T) {
	x := brim()
	inner(t, "two ticks", x, 0, plan(5, 8), whole(10, 14, 18, 10, 10, 10), api.OK)
	inner(t, "three ticks", x, 0, plan(5, 9), nil, api.ErrLong)
	holds(t, "three ticks", x, plan(5, 9), false)
	inner(t, "until the end", x, 0, plan(5, 11), nil, api.ErrLong)
	inner(t, "the last ticks", x, 0, plan(8, 11), whole(10, 10, 10, 10, 14, 18), api.OK)
	inner(t, "a tick more", x, 0, plan(7, 11), nil, api.ErrLong)
	holds(t, "the last ticks", x, plan(8, 11), true)
	holds(t, "a tick more", x, plan(7, 11), false)
	x.Histories[0].Values = ints(19, 19, 19, 19, 19, 19)
	inner(t, "at once", x, 0, plan(5, 6), whole(19, 19, 19, 19, 19, 19), api.OK)
	inner(t, "at once", x, 0, plan(5, 7), nil, api.ErrLong)
	// There is no more water than there can be as the gates shut, either.
	x.Histories[0].Values = ints(500, 19, 19, 19, 19, 19)
	x.River = ints(0, 1, 0, 0, 0, 0)
	inner(t, "full", x, 0, plan(5, 7), whole(500, 20, 19, 19, 19, 19), api.OK)
	inner(t, "more than full", x, 0, plan(5, 8), nil, api.ErrLong)
	// The water does not come back after it was too great.
	x = brim()
	x.River, x.Out = ints(30, 0, 0, 0, 0, 0), 10000000
	for open := 7; open <= 11; open++ {
		inner(t, "back", x, 0, plan(5, open), nil, api.ErrLong)
	}
	inner(t, "behind it", x, 0, plan(6, 11), whole(10, 10, 0, 0, 0, 0), api.OK)
}

// P5.3: a plan holds if no level inside is above the limit: it may be at it.
func TestP5_3Holds(t *testing.T) {
	x := tub(5, ints(50, 50, 130, 50), ints(50, 60, 70, 50), ints(100, 100, 100, 100), ints(101, 0, 0, 0), ints(0, 0, 0, 101))
	holds(t, "unclosed", x, unclosed(), false, true, true, false, false)
	holds(t, "in time", x, plan(6, 8), true, true, true, false, false)
	holds(t, "to the end", x, plan(6, 9), true, true, true, false, true)
	holds(t, "too late", x, plan(7, 9), false, true, true, false, true)
	holds(t, "at last", x, plan(8, 9), false, true, true, false, false)
	x.River = ints(0, 0, 1, 0)
	holds(t, "half a mm more", x, plan(6, 8), true, true, true, false, false)
	holds(t, "half a mm more", x, plan(6, 9), true, true, false, false, true)
	holds(t, "half a mm more", x, plan(7, 9), false, true, false, false, true)
	x.Delay = 1
	holds(t, "shut at 6", x, plan(5, 8), true, true, true, false, false)
	holds(t, "shut at 7", x, plan(6, 9), false, true, false, false, true)
}

// P5.4: the last tick from which the plan of a history alone holds for it.
func TestP5_4Last(t *testing.T) {
	x := tub(5, ints(0, 0, 130, 0, 0, 0), ints(0, 130, 0, 0, 130, 0), ints(130, 0, 0, 0, 0, 0), ints(0, 0, 0, 0, 0, 0), ints(100, 90, 80, 70, 60, 101))
	for delay := range 4 {
		x.Delay = delay
		for h, want := range ints(6, 5, -1, 10, 9) {
			want -= delay
			if h == 2 || want < 5 {
				last(t, delay, x, h, 0, api.ErrDown)
			} else {
				last(t, delay, x, h, want, api.OK)
			}
		}
	}
	for _, delay := range ints(6, 30) {
		x.Delay = delay
		for h := range 5 {
			last(t, "closing never can begin", x, h, 0, api.ErrDown)
		}
	}
	for _, h := range append(wild(), 5, 8) {
		last(t, "another history", x, h, 0, api.ErrNone)
	}
	last(t, "the tick 0", tub(0, ints(0, 101)), 0, 0, api.OK)
	// The river fills the basin while it is shut: with the plan of both histories, which opens later, the first one would not hold from any tick.
	x = tub(5, ints(0, 0, 130, 0, 0, 0, 0), ints(0, 0, 0, 0, 0, 0, 130))
	x.River = ints(60, 60, 60, 60, 60, 60, 60)
	quiet(t, "both", x, 12)
	last(t, "alone", x, 0, 6, api.OK)
	holds(t, "with the other one", x, plan(6, 12), false, false)
	last(t, "the other one", x, 1, 10, api.OK)
	// Not later, as the level outside is near to the limit then; not earlier, as the river would fill the basin.
	x.River = ints(300, 20, 20, 20, 20, 20, 20)
	x.Histories[0].Values = ints(0, 0, 95, 130, 0, 0, 0)
	last(t, "between", x, 0, 6, api.OK)
	holds(t, "too early", x, plan(5, 9), false, false)
	holds(t, "too late", x, plan(7, 9), false, false)
	x.River = ints(300, 0, 0, 0, 0, 0, 0)
	x.Histories[0].Values = ints(0, 130, 0, 0, 0, 0, 0)
	last(t, "none", x, 0, 0, api.ErrDown)
	x.River[0] = 200
	last(t, "at the limit", x, 0, 5, api.OK)
}
