package gate_test

import (
	"math/rand"
	"slices"
	"testing"

	"barrage/api"
	"barrage/gate"
)

// refusedIn returns why an order to a gate of a set is refused, by the definition alone.
func refusedIn(l api.GtSet, states []api.GtState, i int, x api.GtStep, ship bool) api.Errno {
	if x.Order == api.GtHold {
		return api.OK
	}
	if e := refusedAlone(states[i], x); e != api.OK {
		return e
	}
	if ship {
		return api.GtErrShip
	}
	for _, rule := range l.Rules {
		if pos := states[rule.Other].Pos; rule.Gate == i && (pos < rule.Lo || pos > rule.Hi) {
			return api.GtErrRule
		}
	}
	return api.OK
}

// moveOf does a step of a set by the definitions alone.
func moveOf(l api.GtSet, states []api.GtState, steps []api.GtStep, ships []bool) moved {
	var out moved
	for i, g := range l.Gates {
		s, m := stepOf(g, states[i], steps[i], refusedIn(l, states, i, steps[i], ships[i]))
		out.States, out.Moved = append(out.States, s), append(out.Moved, m)
	}
	return out
}

// moves tests which states there are after a step of a set, and what came of it.
func moves(t *testing.T, what any, l api.GtSet, states []api.GtState, steps []api.GtStep, ships []bool, want moved) {
	t.Helper()
	needSet(t, l)
	a, b, e := gate.Move(l, states, steps, ships)
	if !same(moved{a, b}, want) || e != api.OK {
		t.Errorf("%v: %+v, %+v, %+v, %v: %+v, %+v, %d; not %+v", what, l, states, steps, ships, a, b, e, want)
	}
}

// at returns states at positions.
func at(positions ...int) []api.GtState {
	var out []api.GtState
	for _, p := range positions {
		out = append(out, api.GtState{Pos: p})
	}
	return out
}

// to returns steps with orders.
func to(orders ...int) []api.GtStep {
	var out []api.GtStep
	for _, o := range orders {
		out = append(out, api.GtStep{Order: o})
	}
	return out
}

// braked returns a gate on which the closing force is the same everywhere, and that does not slip.
func braked(force int) api.GtGate {
	g := pushed(force)
	g.Brake = max(force, -force)
	return g
}

// three returns a set of two gates that fall 10 cm in a step, and a third one that rises, with rules.
func three(rules ...api.GtRule) api.GtSet {
	l := setOf(braked(5), braked(5), braked(-5))
	l.Rules = rules
	return l
}

// P3.8: rules are about the states before the step; a gate may be ordered to move if all of its rules are kept.
func TestP3_8Rules(t *testing.T) {
	done := func(m ...int) moved {
		var out moved
		for _, x := range m {
			y := api.GtMoved{Moved: x}
			if x == refused {
				y = api.GtMoved{Refused: api.GtErrRule}
			}
			out.Moved = append(out.Moved, y)
			out.States = append(out.States, api.GtState{Pos: 50 + y.Moved})
		}
		return out
	}
	free := make([]bool, 3)
	rule := func(gate, other, lo, hi int) api.GtRule { return api.GtRule{Gate: gate, Other: other, Lo: lo, Hi: hi} }
	for i, c := range []struct {
		rules []api.GtRule
		want  moved
	}{
		{nil, done(10, 10, -10)},
		{[]api.GtRule{rule(1, 0, 50, 50)}, done(10, 10, -10)},
		{[]api.GtRule{rule(1, 0, 60, 60)}, done(10, refused, -10)},
		{[]api.GtRule{rule(1, 0, 51, 5000)}, done(10, refused, -10)},
		{[]api.GtRule{rule(1, 0, 0, 49)}, done(10, refused, -10)},
		{[]api.GtRule{rule(1, 0, 0, 50), rule(0, 1, 50, 100)}, done(10, 10, -10)},
		{[]api.GtRule{rule(1, 0, 0, 50), rule(0, 1, 51, 100)}, done(refused, 10, -10)},
		{[]api.GtRule{rule(2, 0, 0, 0)}, done(10, 10, refused)},
		{[]api.GtRule{rule(2, 0, 0, 100), rule(2, 1, 0, 0)}, done(10, 10, refused)},
		{[]api.GtRule{rule(2, 0, 0, 0), rule(2, 1, 0, 100)}, done(10, 10, refused)},
		{[]api.GtRule{rule(0, 1, 0, 0), rule(1, 2, 0, 0), rule(2, 0, 0, 0)}, done(refused, refused, refused)},
	} {
		l := three(c.rules...)
		moves(t, i, l, at(50, 50, 50), to(api.GtClose, api.GtClose, api.GtOpen), free, c.want)
		// A gate that is held is under no rule.
		moves(t, i, l, at(50, 50, 50), to(0, 0, 0), free, moved{at(50, 50, 50), make([]api.GtMoved, 3)})
	}
	// A gate that is shut already may not be ordered to shut either.
	moves(t, "at the end", three(rule(0, 1, 7, 7)), at(100, 0, 0), to(api.GtClose, 0, api.GtOpen), free,
		moved{at(100, 0, 0), []api.GtMoved{{Refused: api.GtErrRule}, {}, {}}})
}

// refused stands for a gate whose order is refused because of a rule.
const refused = 1000

// P3.8: the first reason for which an order is refused.
func TestP3_8Refused(t *testing.T) {
	l := setOf(pushed(0), pushed(0))
	l.Rules = []api.GtRule{{Gate: 0, Other: 1, Lo: 5, Hi: 5}}
	for i, c := range []struct {
		bolted, ship bool
		other        int
		want         api.Errno
	}{
		{true, true, 0, api.GtErrBolt}, {true, true, 5, api.GtErrBolt}, {true, false, 0, api.GtErrBolt}, {true, false, 5, api.GtErrBolt},
		{false, true, 0, api.GtErrShip}, {false, true, 5, api.GtErrShip}, {false, false, 0, api.GtErrRule}, {false, false, 5, api.OK},
	} {
		states := []api.GtState{{Pos: 50, Bolted: c.bolted}, {Pos: c.other}}
		for _, order := range ints(api.GtClose, api.GtOpen) {
			done := make([]api.GtMoved, 2)
			done[0].Refused = c.want
			moves(t, i, l, states, to(order, 0), []bool{c.ship, true}, moved{states, done})
		}
		moves(t, i, l, states, to(0, 0), []bool{c.ship, true}, moved{states, make([]api.GtMoved, 2)})
	}
}

// P3.8, P3.14: a gate whose order is refused does what it does when it is held: it slips, and oil is pumped; a bolted one does not slip.
func TestP3_8Held(t *testing.T) {
	g := pushed(-20)
	g.Drive, g.Brake, g.Pump, g.Use = 50, 5, 3, 100
	l := setOf(g, g, g)
	l.Rules = []api.GtRule{{Gate: 1, Other: 0, Lo: 7, Hi: 7}}
	step := api.GtStep{Order: api.GtClose, Power: true}
	states := []api.GtState{{Pos: 50, Charge: 9}, {Pos: 50, Charge: 9}, {Pos: 50, Charge: 9, Bolted: true}}
	want := moved{
		[]api.GtState{{Pos: 40, Charge: 12}, {Pos: 40, Charge: 12}, {Pos: 50, Charge: 12, Bolted: true}},
		[]api.GtMoved{{Refused: api.GtErrShip, Moved: -10}, {Refused: api.GtErrRule, Moved: -10}, {Refused: api.GtErrBolt}},
	}
	moves(t, "refused", l, states, []api.GtStep{step, step, step}, []bool{true, false, false}, want)
	want.States[0], want.Moved[0] = api.GtState{Pos: 57, Charge: 5}, api.GtMoved{Moved: 7, Oil: 7}
	moves(t, "the first one is not", l, states, []api.GtStep{step, step, step}, []bool{false, false, false}, want)
}

// P3.8: each gate has a step of its own, with its own levels and power.
func TestP3_8Own(t *testing.T) {
	g := pushed(0)
	g.Push, g.Drive = 10, 1
	states := []api.GtState{{Pos: 5}, {Pos: 50}, {Pos: 95}, {Pos: 30}}
	steps := []api.GtStep{{Order: api.GtClose, Outer: 100}, {Order: api.GtOpen, Inner: 100}, {Order: api.GtClose, Power: true}, {Order: api.GtOpen}}
	moves(t, "four", setOf(g, g, g, g), states, steps, make([]bool, 4),
		moved{at(15, 40, 100, 30), []api.GtMoved{{Moved: 10}, {Moved: -10}, {Moved: 5}, {}}})
}

// P3.8, P3.14: all steps of sets are those of the definitions; a gate whose order is not refused does what it does alone, and another one what it does with GtHold.
func TestP3_14All(t *testing.T) {
	r := rand.New(rand.NewSource(314))
	counts := map[api.Errno]int{}
	for range 8000 {
		l := anySet(r)
		var states []api.GtState
		var steps []api.GtStep
		var ships []bool
		for _, g := range l.Gates {
			states, steps, ships = append(states, anyState(r, g)), append(steps, anyStep(r)), append(ships, r.Intn(4) == 0)
		}
		moves(t, "any", l, states, steps, ships, moveOf(l, states, steps, ships))
		after, done, _ := gate.Move(l, states, steps, ships)
		for i, g := range l.Gates {
			why := refusedIn(l, states, i, steps[i], ships[i])
			counts[why]++
			x := steps[i]
			if why != api.OK {
				x.Order = api.GtHold
			}
			s, m, e := gate.Step(g, states[i], x)
			m.Refused = why
			if s != after[i] || m != done[i] || e != api.OK {
				t.Fatalf("%+v, %+v, %+v: %+v, %+v; alone %+v, %+v, %d", g, states[i], steps[i], after[i], done[i], s, m, e)
			}
		}
	}
	for _, e := range []api.Errno{api.OK, api.GtErrBolt, api.GtErrShip, api.GtErrRule} {
		if counts[e] < 300 {
			t.Errorf("%v: too much alike", counts)
		}
	}
}

// P3.8: the errors of Move, and their order.
func TestP3_8MoveErrors(t *testing.T) {
	l := setOf(east(), east())
	fail := func(what any, states []api.GtState, steps []api.GtStep, ships []bool, want api.Errno) {
		t.Helper()
		if a, b, e := gate.Move(l, states, steps, ships); e != want || e != api.OK && (len(a) > 0 || len(b) > 0) {
			t.Errorf("%v: %+v, %+v, %d; not %d", what, a, b, e, want)
		}
	}
	for states := range 4 {
		for steps := range 4 {
			for ships := range 4 {
				want := api.ErrArg
				if states == 2 && steps == 2 && ships == 2 {
					want = api.OK
				}
				fail("how many", make([]api.GtState, states), make([]api.GtStep, steps), make([]bool, ships), want)
				if want != api.OK {
					fail("first", slices.Repeat(at(-1), states), make([]api.GtStep, steps), make([]bool, ships), api.ErrArg)
				}
			}
		}
	}
	free := make([]bool, 2)
	fail("a state", at(0, 1001), to(0, 0), free, api.ErrRange)
	fail("an order", at(0, 0), to(0, 3), free, api.ErrArg)
	fail("a state before an order", at(0, 1001), to(0, 3), free, api.ErrRange)
	fail("an order of the first one", at(0, 1001), to(3, 0), free, api.ErrArg)
	fail("a state of the first one", at(1001, 0), to(0, 3), free, api.ErrRange)
	fail("a level", at(0, 0), []api.GtStep{{}, {Inner: 20001}}, free, api.ErrRange)
	fail("a level of the first one", at(0, 0), []api.GtStep{{Outer: -20001}, {Order: -1}}, free, api.ErrRange)
}

// delays tests in how many ticks all gates are shut.
func delays(t *testing.T, what any, l api.GtSet, states []api.GtState, power bool, want int, e api.Errno) {
	t.Helper()
	needSet(t, l)
	if n, f := gate.Delay(l, states, 0, 0, power); n != want || f != e {
		t.Errorf("%v: %d, %d; not %d, %d", what, n, f, want, e)
	}
}

// P3.8: how long all gates of a set take to shut.
func TestP3_8Delay(t *testing.T) {
	slow := braked(1)
	slow.Gravity = 3 // 34 steps
	for steps, want := range map[int]int{0: 0, 1: 1, 9: 1, 10: 1, 11: 2, 20: 2, 21: 3, 33: 4} {
		delays(t, steps, setOf(slow), at(100-3*steps), false, want, api.OK)
	}
	delays(t, "two", setOf(pushed(1), slow), at(0, 0), false, 4, api.OK)
	delays(t, "two", setOf(slow, pushed(1)), at(97, 0), false, 1, api.OK)
	delays(t, "all shut", setOf(slow, slow), at(100, 100), false, 0, api.OK)
	delays(t, "one that never is", setOf(pushed(1), pushed(0)), at(0, 99), false, 0, api.ErrDown)
	delays(t, "bolted", setOf(pushed(1), pushed(1)), []api.GtState{{}, {Pos: 99, Bolted: true}}, false, 0, api.ErrDown)
	delays(t, "bolted at the end", setOf(pushed(1), pushed(1)), []api.GtState{{}, {Pos: 100, Bolted: true}}, false, 1, api.OK)
	driven := pushed(0)
	driven.Drive = 1
	delays(t, "driven", setOf(driven), at(0), true, 2, api.OK)
	delays(t, "without power", setOf(driven), at(0), false, 0, api.ErrDown)
	l := setOf(slow, slow)
	l.Rules = []api.GtRule{{Gate: 1, Other: 0, Lo: 100, Hi: 100}}
	delays(t, "one after the other", l, at(0, 0), false, 7, api.OK)
	l.Rules = []api.GtRule{{Gate: 1, Other: 0, Lo: 50, Hi: 100}}
	delays(t, "one behind the other", l, at(0, 0), false, 6, api.OK) // 17 steps, then 34
	l.Rules = append(l.Rules, api.GtRule{Gate: 0, Other: 1, Lo: 1, Hi: 100})
	delays(t, "each of them waits for the other one", l, at(0, 0), false, 0, api.ErrDown)
	l.Rules = []api.GtRule{{Gate: 1, Other: 0, Lo: 0, Hi: 30}}
	delays(t, "too late", l, at(0, 0), false, 0, api.ErrDown)
	l.Gates[1].Gravity = 10
	delays(t, "just in time", l, at(0, 0), false, 4, api.OK)
	l.Gates[1].Gravity, l.Gates[1].Brake = 3, 0
	delays(t, "not ordered to, it slips shut", l, at(0, 0), false, 4, api.OK)
}

// P3.8: a gate that waits slips, and has to be brought back: what counts is when all are shut at once.
func TestP3_8Slips(t *testing.T) {
	first, second := pushed(-20), pushed(1)
	first.Drive, first.Gravity = 30, 7
	second.Gravity = 1
	l := setOf(first, second)
	l.Rules = []api.GtRule{{Gate: 0, Other: 1, Lo: 0, Hi: 9}, {Gate: 0, Other: 1, Lo: 0, Hi: 99}}
	// The first one gets 70 cm down in ten steps, and back up in ten more while it is not allowed to close.
	delays(t, "pushed open", l, at(0, 0), true, 0, api.ErrDown)
	l.Rules[0].Hi = 20
	// Shut after 15 steps, it slips from the 22nd one on, and is never shut together with the second one.
	delays(t, "pushed open again", l, at(0, 0), true, 0, api.ErrDown)
	l.Gates[0].Brake = 20
	delays(t, "held by its brake", l, at(0, 0), true, 10, api.OK)
}

// P3.8: MaxGtSteps steps are allowed, and no more.
func TestP3_8Long(t *testing.T) {
	g := braked(1)
	g.Travel, g.Gravity = 5000, 1
	delays(t, "just", setOf(g, g), at(4000, 3000), false, 200, api.OK)
	delays(t, "just less", setOf(g, g), at(4000, 3010), false, 199, api.OK)
	delays(t, "just not", setOf(g, g), at(4000, 2999), false, 0, api.ErrDown)
	l := setOf(g, g)
	l.Rules = []api.GtRule{{Gate: 0, Other: 1, Lo: 5000, Hi: 5000}}
	delays(t, "both", l, at(4000, 4000), false, 200, api.OK)
	delays(t, "both", l, at(4000, 3999), false, 0, api.ErrDown)
}

// P3.8: the errors of Delay, and their order.
func TestP3_8DelayErrors(t *testing.T) {
	l := setOf(east(), east())
	fail := func(states []api.GtState, outer, inner int, want api.Errno) {
		t.Helper()
		n, e := gate.Delay(l, states, outer, inner, false)
		if want == api.ErrRange != (e == api.ErrRange) || want == api.ErrArg != (e == api.ErrArg) || e != api.OK && n != 0 {
			t.Errorf("%+v, %d, %d: %d, %d; not %d", states, outer, inner, n, e, want)
		}
	}
	for n := range 5 {
		if n != 2 {
			fail(make([]api.GtState, n), 0, 0, api.ErrArg)
			fail(slices.Repeat(at(-1), n), 20001, 0, api.ErrArg)
		}
	}
	for _, n := range append(wild(), -20001, -20000, 0, 1000, 1001, 20000, 20001) {
		right := func(ok bool) api.Errno {
			if ok {
				return api.OK
			}
			return api.ErrRange
		}
		fail(at(0, n), 0, 0, right(0 <= n && n <= 1000))
		fail(at(n, 0), 0, 0, right(0 <= n && n <= 1000))
		fail([]api.GtState{{}, {Charge: n}}, 0, 0, right(0 <= n && n <= 200))
		fail(at(0, 0), n, 0, right(-20000 <= n && n <= 20000))
		fail(at(0, 0), 0, n, right(-20000 <= n && n <= 20000))
	}
}

// P3.8, P3.15: Delay is when all gates are shut at once, by Move; without rules it is the greatest Time.
func TestP3_15Delay(t *testing.T) {
	r := rand.New(rand.NewSource(3150))
	counts := map[string]int{}
	for range 300 {
		l := anySet(r)
		x := anyStep(r)
		x.Order = api.GtClose
		var states []api.GtState
		for i, g := range l.Gates {
			states = append(states, anyState(r, g))
			if x.Power {
				l.Gates[i].Drive, l.Gates[i].Use, states[i].Bolted = 500, 0, false
			}
		}
		want, e := delayOf(l, states, x)
		if n, f := gate.Delay(l, states, x.Outer, x.Inner, x.Power); n != want || f != e {
			t.Fatalf("%+v, %+v, %+v: %d, %d; not %d, %d", l, states, x, n, f, want, e)
		}
		switch {
		case e != api.OK:
			counts["never"]++
		case len(l.Rules) > 0:
			counts["by rules"]++
		case len(l.Gates) > 1:
			counts["free"]++
		}
		if len(l.Rules) > 0 {
			continue
		}
		steps, f := 0, api.OK
		for i, g := range l.Gates {
			n, e := gate.Time(g, states[i], x.Outer, x.Inner, x.Power)
			steps, f = max(steps, n), max(f, e)
		}
		if f != e || f == api.OK && want != up(steps, 10) {
			t.Fatalf("%+v, %+v, %+v: %d, %d; alone %d, %d", l, states, x, want, e, steps, f)
		}
	}
	for _, what := range []string{"never", "by rules", "free"} {
		if counts[what] < 20 {
			t.Errorf("%v: too much alike", counts)
		}
	}
}

// delayOf returns in how many ticks all gates are shut, by one step of the set after the other.
func delayOf(l api.GtSet, states []api.GtState, x api.GtStep) (int, api.Errno) {
	steps := slices.Repeat([]api.GtStep{x}, len(l.Gates))
	for n := 0; n <= 2000; n++ {
		shut := true
		for i, s := range states {
			shut = shut && s.Pos == l.Gates[i].Travel
		}
		if shut {
			return up(n, 10), api.OK
		}
		states = moveOf(l, states, steps, make([]bool, len(l.Gates))).States
	}
	return 0, api.ErrDown
}
