package gate_test

import (
	"math/rand"
	"slices"
	"testing"

	"barrage/api"
	"barrage/gate"
)

// stepOf does a step by the definitions alone, if the order is refused or not.
func stepOf(g api.GtGate, s api.GtState, x api.GtStep, refused api.Errno) (api.GtState, api.GtMoved) {
	order := x.Order
	if refused != api.OK {
		order = api.GtHold
	}
	net, rub := forceOf(g, s.Pos, x.Outer, x.Inner)
	m := api.GtMoved{Refused: refused}
	used := func(d int) int { return up(d*g.Use, 100) }
	switch {
	case s.Bolted:
	case order == api.GtHold && net > g.Brake+rub:
		m.Moved = min(s.Pos+g.Gravity, g.Travel) - s.Pos
	case order == api.GtHold && -net > g.Brake+rub:
		m.Moved = max(s.Pos-g.Gravity, 0) - s.Pos
	case order == api.GtClose && net > rub:
		m.Moved = min(s.Pos+g.Gravity, g.Travel) - s.Pos
	case order == api.GtOpen && -net > rub:
		m.Moved = max(s.Pos-g.Gravity, 0) - s.Pos
	case order == api.GtClose && x.Power && net+g.Drive > rub:
		for d := 1; d <= g.Speed && s.Pos+d <= g.Travel && used(d) <= s.Charge; d++ {
			m.Moved, m.Oil = d, used(d)
		}
	case order == api.GtOpen && x.Power && -net+g.Drive > rub:
		for d := 1; d <= g.Speed && s.Pos-d >= 0 && used(d) <= s.Charge; d++ {
			m.Moved, m.Oil = -d, used(d)
		}
	}
	s.Pos += m.Moved
	s.Charge -= m.Oil
	if x.Power {
		s.Charge = within(s.Charge+g.Pump, g.Capacity)
	}
	return s, m
}

// refusedAlone returns why an order to a gate that is not in a set is refused.
func refusedAlone(s api.GtState, x api.GtStep) api.Errno {
	if s.Bolted && x.Order != api.GtHold {
		return api.GtErrBolt
	}
	return api.OK
}

// step tests which state there is after a step, and what came of it.
func step(t *testing.T, what any, g api.GtGate, s api.GtState, x api.GtStep, after api.GtState, m api.GtMoved) {
	t.Helper()
	need(t, g)
	a, b, e := gate.Step(g, s, x)
	if a != after || b != m || e != api.OK {
		t.Errorf("%v: %+v, %+v: %+v, %+v, %d; not %+v, %+v", what, s, x, a, b, e, after, m)
	}
}

// goes tests by how many cm a gate moves by an order, and how much oil this takes, from a state that is not bolted.
func goes(t *testing.T, what any, g api.GtGate, pos, charge, order int, power bool, moved, oil int) {
	t.Helper()
	s := api.GtState{Pos: pos, Charge: charge}
	step(t, what, g, s, api.GtStep{Order: order, Power: power}, api.GtState{Pos: pos + moved, Charge: charge - oil}, api.GtMoved{Moved: moved, Oil: oil})
}

// P3.3: a gate falls if the force is above the friction, whether there is power or not; it goes no further than to the end.
func TestP3_3Falls(t *testing.T) {
	for _, power := range []bool{false, true} {
		for _, force := range ints(21, 200000) {
			g := pushed(force)
			g.Seal, g.Use = 20, 100
			for pos, want := range map[int]int{0: 10, 1: 10, 90: 10, 91: 9, 99: 1, 100: 0} {
				goes(t, "down", g, pos, 50, api.GtClose, power, want, 0)
			}
			goes(t, "not up", g, 50, 50, api.GtOpen, power, 0, 0)
			g = pushed(-force)
			g.Seal, g.Use = 20, 100
			for pos, want := range map[int]int{100: -10, 99: -10, 10: -10, 9: -9, 1: -1, 0: 0} {
				goes(t, "up", g, pos, 50, api.GtOpen, power, want, 0)
			}
			goes(t, "not down", g, 50, 50, api.GtClose, power, 0, 0)
		}
		for _, force := range ints(-20, -1, 0, 1, 20) {
			g := pushed(force)
			g.Seal = 20
			goes(t, "not down", g, 50, 50, api.GtClose, power, 0, 0)
			goes(t, "not up", g, 50, 50, api.GtOpen, power, 0, 0)
		}
	}
}

// P3.3: a gate that does not fall is driven if there is power, and the force with that of the drive is above the friction.
func TestP3_3Driven(t *testing.T) {
	for _, c := range []struct{ force, drive, closes, opens int }{
		{0, 20, 0, 0}, {0, 21, 7, -7}, {-1, 21, 0, -7}, {1, 21, 7, 0}, {-30, 50, 0, -10}, {-30, 51, 7, -10},
		{30, 50, 10, 0}, {30, 51, 10, -7}, {20, 1, 7, 0}, {-20, 1, 0, -7}, {20, 0, 0, 0}, {20, 40, 7, 0}, {20, 41, 7, -7},
	} {
		g := pushed(c.force)
		g.Seal, g.Drive = 20, c.drive
		goes(t, c, g, 50, 0, api.GtClose, true, c.closes, 0)
		goes(t, c, g, 50, 0, api.GtOpen, true, c.opens, 0)
		g.Drive = 0
		for order, moved := range map[int]int{api.GtClose: c.closes, api.GtOpen: c.opens} {
			if moved == 10 || moved == -10 {
				goes(t, c, g, 50, 0, order, true, moved, 0)
			}
			g.Drive = c.drive
			if moved == 7 || moved == -7 {
				goes(t, c, g, 50, 0, order, false, 0, 0)
			}
		}
	}
	g := pushed(0)
	g.Drive = 1
	for pos, want := range map[int]int{0: 7, 93: 7, 94: 6, 99: 1, 100: 0} {
		goes(t, "down", g, pos, 0, api.GtClose, true, want, 0)
		goes(t, "up", g, 100-pos, 0, api.GtOpen, true, -want, 0)
	}
}

// P3.3: a gate is driven as far as there is oil; each way takes as much as it does, rounded up.
func TestP3_3Oil(t *testing.T) {
	for _, c := range []struct{ use, charge, moved, oil int }{
		{100, 0, 0, 0}, {100, 1, 1, 1}, {100, 6, 6, 6}, {100, 7, 7, 7}, {100, 8, 7, 7}, {100, 1000, 7, 7},
		{0, 0, 7, 0}, {0, 5, 7, 0}, {1, 0, 0, 0}, {1, 1, 7, 1}, {14, 1, 7, 1}, {15, 1, 6, 1}, {15, 2, 7, 2},
		{50, 1, 2, 1}, {50, 2, 4, 2}, {50, 3, 6, 3}, {50, 4, 7, 4}, {51, 1, 1, 1}, {51, 2, 3, 2}, {99, 6, 6, 6},
		{101, 1, 0, 0}, {101, 2, 1, 2}, {250, 2, 0, 0}, {250, 3, 1, 3}, {250, 5, 2, 5}, {250, 7, 2, 5}, {250, 8, 3, 8}, {100000, 999, 0, 0}, {100000, 1000, 1, 1000},
	} {
		g := pushed(0)
		g.Drive, g.Use = 1, c.use
		goes(t, c, g, 20, c.charge, api.GtClose, true, c.moved, c.oil)
		goes(t, c, g, 80, c.charge, api.GtOpen, true, -c.moved, c.oil)
	}
	g := pushed(0)
	g.Drive, g.Use = 1, 250
	goes(t, "near the end", g, 98, 1000, api.GtClose, true, 2, 5)
	goes(t, "near the end", g, 1, 1000, api.GtOpen, true, -1, 3)
	goes(t, "at the end", g, 100, 1000, api.GtClose, true, 0, 0)
	goes(t, "at the end", g, 0, 1000, api.GtOpen, true, 0, 0)
	// At the greatest Use and Capacity, and the greatest Speed.
	g.Use, g.Capacity, g.Speed = 100000, 100000, 100
	goes(t, "as fast as can be", g, 0, 100000, api.GtClose, true, 100, 100000)
	goes(t, "as fast as can be", g, 0, 99999, api.GtClose, true, 99, 99000)
}

// P3.3: with power there is pumped in each step, behind what the drive takes, and no more than there is room for.
func TestP3_3Pumped(t *testing.T) {
	g := pushed(0)
	g.Drive, g.Use, g.Pump, g.Capacity = 1, 100, 4, 20
	for _, c := range []struct {
		charge, order  int
		power, bolted  bool
		moved, oil, to int
	}{
		{0, api.GtClose, true, false, 0, 0, 4}, {3, api.GtClose, true, false, 3, 3, 4}, {10, api.GtClose, true, false, 7, 7, 7}, {20, api.GtClose, true, false, 7, 7, 17},
		{20, api.GtOpen, true, false, -7, 7, 17}, {20, api.GtOpen, false, false, 0, 0, 20},
		{15, api.GtHold, true, false, 0, 0, 19}, {16, api.GtHold, true, false, 0, 0, 20}, {17, api.GtHold, true, false, 0, 0, 20}, {20, api.GtHold, true, false, 0, 0, 20},
		{15, api.GtHold, false, false, 0, 0, 15}, {15, api.GtHold, true, true, 0, 0, 19}, {15, api.GtHold, false, true, 0, 0, 15},
	} {
		s := api.GtState{Pos: 50, Charge: c.charge, Bolted: c.bolted}
		step(t, c, g, s, api.GtStep{Order: c.order, Power: c.power}, api.GtState{Pos: 50 + c.moved, Charge: c.to, Bolted: c.bolted}, api.GtMoved{Moved: c.moved, Oil: c.oil})
	}
	s := api.GtState{Pos: 50, Charge: 19, Bolted: true}
	step(t, "refused", g, s, api.GtStep{Order: api.GtClose, Power: true}, api.GtState{Pos: 50, Charge: 20, Bolted: true}, api.GtMoved{Refused: api.GtErrBolt})
	g.Pump, g.Capacity = 100000, 100000
	step(t, "much", g, api.GtState{Charge: 99999}, api.GtStep{Power: true}, api.GtState{Charge: 100000}, api.GtMoved{})
}

// P3.3, P3.11: a gate that is held slips if the force is above brake and friction together, in its direction.
func TestP3_3Held(t *testing.T) {
	for force, want := range map[int]int{0: 0, 20: 0, 50: 0, 70: 0, 71: 10, 200000: 10, -20: 0, -70: 0, -71: -10, -200000: -10} {
		g := pushed(force)
		g.Seal, g.Brake, g.Drive = 20, 50, 200000
		for _, power := range []bool{false, true} {
			goes(t, force, g, 50, 9, api.GtHold, power, want, 0)
			if want != 0 {
				goes(t, "down", g, 97, 9, api.GtHold, power, max(-10, min(want, 3)), 0)
				goes(t, "up", g, 3, 9, api.GtHold, power, min(10, max(want, -3)), 0)
			}
		}
	}
	// A gate that is to close and is pushed open too hard to be driven stays where it is.
	g := pushed(-500)
	g.Drive = 100
	goes(t, "it does not slip", g, 50, 9, api.GtClose, true, 0, 0)
	goes(t, "it does", g, 50, 9, api.GtHold, true, -10, 0)
}

// P3.3, P3.11: a gate that is bolted does not move, wherever it is, and refuses orders.
func TestP3_3Bolted(t *testing.T) {
	for _, force := range ints(-500, 0, 500) {
		g := pushed(force)
		g.Drive = 1000
		for _, pos := range ints(0, 50, 100) {
			s := api.GtState{Pos: pos, Charge: 9, Bolted: true}
			for order, e := range []api.Errno{api.OK, api.GtErrBolt, api.GtErrBolt} {
				for _, power := range []bool{false, true} {
					step(t, force, g, s, api.GtStep{Order: order, Power: power}, s, api.GtMoved{Refused: e})
				}
			}
		}
	}
}

// P3.3: the levels on both sides are those of the step.
func TestP3_3Levels(t *testing.T) {
	g := pushed(0)
	g.Push, g.Brake = 10, 9
	for _, c := range []struct{ order, outer, inner, moved int }{
		{api.GtHold, 1000, 0, 10}, {api.GtHold, 0, 1000, -10}, {api.GtHold, 999, 0, 0}, {api.GtHold, 0, 900, 0}, {api.GtHold, -1000, -2000, 10},
		{api.GtClose, 100, 0, 10}, {api.GtClose, 99, 0, 0}, {api.GtClose, 0, 500, 0}, {api.GtOpen, 0, 1, -10}, {api.GtOpen, 0, 0, 0}, {api.GtOpen, 20000, -20000, 0},
	} {
		step(t, c, g, api.GtState{Pos: 50}, api.GtStep{Order: c.order, Outer: c.outer, Inner: c.inner}, api.GtState{Pos: 50 + c.moved}, api.GtMoved{Moved: c.moved})
	}
}

// P3.3, P3.9, P3.11: all steps are those of the definitions; no gate leaves its way, moves too far, or has too much oil or too little.
func TestP3_3All(t *testing.T) {
	r := rand.New(rand.NewSource(33))
	counts := map[string]int{}
	for range 20000 {
		g := anyGate(r)
		s, x := anyState(r, g), anyStep(r)
		after, m := stepOf(g, s, x, refusedAlone(s, x))
		step(t, g, g, s, x, after, m)
		a, b, _ := gate.Step(g, s, x)
		net, rub := forceOf(g, s.Pos, x.Outer, x.Inner)
		pumped := 0
		if x.Power {
			pumped = g.Pump
		}
		still := s.Bolted || x.Order == api.GtHold && max(net, -net) <= g.Brake+rub
		switch {
		case a.Pos < 0 || a.Pos > g.Travel || a.Charge < 0 || a.Charge > g.Capacity || a.Bolted != s.Bolted:
			t.Fatalf("%+v, %+v, %+v: %+v", g, s, x, a)
		case max(b.Moved, -b.Moved) > max(g.Speed, g.Gravity) || a.Pos != s.Pos+b.Moved:
			t.Fatalf("%+v, %+v, %+v: %+v, %+v", g, s, x, a, b)
		case a.Charge != min(s.Charge-b.Oil+pumped, g.Capacity) || still && b.Moved != 0:
			t.Fatalf("%+v, %+v, %+v: %+v, %+v", g, s, x, a, b)
		case x.Order == api.GtHold && (b.Oil != 0 || b.Moved*net < 0):
			t.Fatalf("%+v, %+v, %+v: %+v, %+v", g, s, x, a, b)
		}
		switch {
		case b.Refused != api.OK:
			counts["refused"]++
		case b.Oil > 0:
			counts["driven"]++
		case b.Moved > 0 && x.Order == api.GtHold:
			counts["slips shut"]++
		case b.Moved < 0 && x.Order == api.GtHold:
			counts["slips open"]++
		case b.Moved != 0:
			counts["falls"]++
		default:
			counts["still"]++
		}
	}
	for _, what := range []string{"refused", "driven", "slips shut", "slips open", "falls", "still"} {
		if counts[what] < 200 {
			t.Errorf("%v: too much alike", counts)
		}
	}
}

// P3.3: Run does the steps one after the other.
func TestP3_3Run(t *testing.T) {
	r := rand.New(rand.NewSource(330))
	for range 500 {
		g := anyGate(r)
		s := anyState(r, g)
		var l []api.GtStep
		for range r.Intn(60) {
			l = append(l, anyStep(r))
		}
		var want []api.GtState
		now := s
		for _, x := range l {
			now, _ = stepOf(g, now, x, refusedAlone(now, x))
			want = append(want, now)
		}
		if got, e := gate.Run(g, s, l); !same(got, want) || e != api.OK {
			t.Fatalf("%+v, %+v, %+v: %+v, %d; not %+v", g, s, l, got, e, want)
		}
	}
	for n, want := range map[int]api.Errno{0: api.OK, 1999: api.OK, 2000: api.OK, 2001: api.ErrLong, 5000: api.ErrLong} {
		l := slices.Repeat([]api.GtStep{{Order: api.GtClose, Power: true}}, n)
		got, e := gate.Run(east(), api.GtState{}, l)
		if e != want || e == api.OK && len(got) != n || e != api.OK && len(got) != 0 {
			t.Errorf("%d steps: %d states, %d", n, len(got), e)
		}
	}
}

// runsLike tests which error Step and Run have for a state and a step, and that there is nothing else with it.
func runsLike(t *testing.T, s api.GtState, x api.GtStep, want api.Errno) {
	t.Helper()
	a, m, e := gate.Step(east(), s, x)
	if e != want || e != api.OK && (a != api.GtState{} || m != api.GtMoved{}) {
		t.Errorf("%+v, %+v: %+v, %+v, %d; not %d", s, x, a, m, e, want)
	}
	l, e := gate.Run(east(), s, []api.GtStep{{}, x, {}})
	if e != want || e != api.OK && len(l) > 0 {
		t.Errorf("%+v, %+v: %+v, %d; not %d", s, x, l, e, want)
	}
}

// P3.3: states and steps that are none, and the order of these errors.
func TestP3_3Errors(t *testing.T) {
	for _, n := range append(wild(), 0, 1, 2, 3, 200, 201, 1000, 1001, -20001, -20000, 20000, 20001) {
		test := func(right bool, s api.GtState, x api.GtStep, e api.Errno) {
			t.Helper()
			if right {
				e = api.OK
			}
			runsLike(t, s, x, e)
		}
		test(0 <= n && n <= 1000, api.GtState{Pos: n}, api.GtStep{}, api.ErrRange)
		test(0 <= n && n <= 200, api.GtState{Charge: n}, api.GtStep{}, api.ErrRange)
		test(0 <= n && n <= 2, api.GtState{}, api.GtStep{Order: n}, api.ErrArg)
		test(-20000 <= n && n <= 20000, api.GtState{}, api.GtStep{Outer: n}, api.ErrRange)
		test(-20000 <= n && n <= 20000, api.GtState{}, api.GtStep{Inner: n}, api.ErrRange)
	}
	runsLike(t, api.GtState{Charge: -1}, api.GtStep{Order: 3}, api.ErrRange)
	runsLike(t, api.GtState{Pos: 1001}, api.GtStep{Order: 3}, api.ErrRange)
	runsLike(t, api.GtState{}, api.GtStep{Order: 3, Outer: 20001}, api.ErrArg)
	runsLike(t, api.GtState{}, api.GtStep{Order: -1, Inner: -20001}, api.ErrArg)
	long := make([]api.GtStep, 2001)
	long[0].Order = 3
	if l, e := gate.Run(east(), api.GtState{Pos: -1}, long); e != api.ErrLong || len(l) > 0 {
		t.Errorf("%d states, %d", len(l), e)
	}
	if l, e := gate.Run(east(), api.GtState{Pos: -1}, nil); e != api.ErrRange || len(l) > 0 {
		t.Errorf("%d states, %d", len(l), e)
	}
	for _, steps := range [][]api.GtStep{{{}, {Order: 3}, {Outer: 20001}}, {{}, {Outer: 20001}, {Order: 3}}} {
		want := api.ErrArg
		if steps[1].Order == 0 {
			want = api.ErrRange
		}
		if l, e := gate.Run(east(), api.GtState{}, steps); e != want || len(l) > 0 {
			t.Errorf("%+v: %d states, %d", steps, len(l), e)
		}
	}
}

// takes tests in how many steps a gate is shut.
func takes(t *testing.T, what any, g api.GtGate, s api.GtState, power bool, want int, e api.Errno) {
	t.Helper()
	need(t, g)
	if n, f := gate.Time(g, s, 0, 0, power); n != want || f != e {
		t.Errorf("%v, %+v: %d, %d; not %d, %d", what, s, n, f, want, e)
	}
}

// P3.4: how long a gate takes to shut.
func TestP3_4Time(t *testing.T) {
	g := pushed(1)
	for pos, want := range map[int]int{0: 10, 1: 10, 9: 10, 10: 9, 89: 2, 90: 1, 99: 1, 100: 0} {
		takes(t, "it falls", g, api.GtState{Pos: pos}, false, want, api.OK)
	}
	takes(t, "bolted", g, api.GtState{Pos: 99, Bolted: true}, false, 0, api.ErrDown)
	takes(t, "bolted at the end", g, api.GtState{Pos: 100, Bolted: true}, false, 0, api.OK)
	g = pushed(0)
	g.Drive = 1
	takes(t, "driven", g, api.GtState{}, true, 15, api.OK)
	takes(t, "without power", g, api.GtState{}, false, 0, api.ErrDown)
	takes(t, "without power at the end", g, api.GtState{Pos: 100}, false, 0, api.OK)
	g.Use, g.Pump = 100, 2
	takes(t, "by pump alone", g, api.GtState{}, true, 51, api.OK)
	takes(t, "with oil", g, api.GtState{Charge: 1000}, true, 15, api.OK)
	g.Pump = 0
	takes(t, "with enough oil", g, api.GtState{Charge: 100}, true, 15, api.OK)
	takes(t, "with too little oil", g, api.GtState{Charge: 99}, true, 0, api.ErrDown)
	g.Own = ints(10, 0) // it falls to 100, where nothing pushes it
	takes(t, "it falls as far as there is a force", g, api.GtState{}, false, 10, api.OK)
}

// P3.4: a gate has MaxGtSteps steps, and no more.
func TestP3_4Long(t *testing.T) {
	g := pushed(1)
	g.Travel, g.Gravity = 5000, 1
	for pos, want := range map[int]int{2999: 0, 3000: 2000, 3001: 1999, 4999: 1} {
		e := api.OK
		if want == 0 {
			e = api.ErrDown
		}
		takes(t, "slow", g, api.GtState{Pos: pos}, false, want, e)
	}
	g.Gravity = 3
	takes(t, "less slow", g, api.GtState{}, false, 1667, api.OK)
}

// P3.4: the errors of Time are those of Step.
func TestP3_4Errors(t *testing.T) {
	for _, n := range append(wild(), -20001, -20000, 0, 200, 201, 1000, 1001, 20000, 20001) {
		for _, c := range []struct {
			state        api.GtState
			outer, inner int
		}{{state: api.GtState{Pos: n}}, {state: api.GtState{Charge: n}}, {outer: n}, {inner: n}} {
			_, _, want := gate.Step(east(), c.state, api.GtStep{Order: api.GtClose, Outer: c.outer, Inner: c.inner})
			got, e := gate.Time(east(), c.state, c.outer, c.inner, false)
			if want == api.ErrRange != (e == api.ErrRange) || e != api.OK && got != 0 {
				t.Errorf("%+v: %d, %d; Step %d", c, got, e, want)
			}
		}
	}
}

// P3.4, P3.15: Time is the first step after which Run has the gate shut, and more steps leave it so.
func TestP3_15Time(t *testing.T) {
	r := rand.New(rand.NewSource(315))
	counts := map[string]int{}
	for range 400 {
		g := anyGate(r)
		s, x := anyState(r, g), anyStep(r)
		x.Order = api.GtClose
		states, e := gate.Run(g, s, slices.Repeat([]api.GtStep{x}, api.MaxGtSteps))
		if e != api.OK {
			t.Fatal(e)
		}
		states = append([]api.GtState{s}, states...)
		want, f := slices.IndexFunc(states, func(s api.GtState) bool { return s.Pos == g.Travel }), api.OK
		if want < 0 {
			want, f = 0, api.ErrDown
		}
		if n, e := gate.Time(g, s, x.Outer, x.Inner, x.Power); n != want || e != f {
			t.Fatalf("%+v, %+v, %+v: %d, %d; not %d, %d", g, s, x, n, e, want, f)
		}
		if f == api.OK && states[api.MaxGtSteps].Pos != g.Travel {
			t.Fatalf("%+v, %+v, %+v: it does not stay shut", g, s, x)
		}
		staysHeld(t, g, states[want], x)
		switch {
		case f != api.OK:
			counts["never"]++
		case want > 1:
			counts["later"]++
		}
	}
	if counts["never"] < 50 || counts["later"] < 50 {
		t.Errorf("%v: too much alike", counts)
	}
}

// staysHeld tests that a gate that is shut stays so if it is held, but if it is pushed open against its brake.
func staysHeld(t *testing.T, g api.GtGate, s api.GtState, x api.GtStep) {
	t.Helper()
	net, rub := forceOf(g, g.Travel, x.Outer, x.Inner)
	if s.Pos != g.Travel || -net > g.Brake+rub {
		return
	}
	x.Order = api.GtHold
	states, e := gate.Run(g, s, slices.Repeat([]api.GtStep{x}, 20))
	if e != api.OK || slices.ContainsFunc(states, func(s api.GtState) bool { return s.Pos != g.Travel }) {
		t.Fatalf("%+v, %+v, %+v: %+v, %d", g, s, x, states, e)
	}
}

// P3.10: a gate that closes by gravity alone is shut in as many steps as gravity takes, without power and oil.
func TestP3_10Gravity(t *testing.T) {
	r := rand.New(rand.NewSource(310))
	many := 0
	for range 2500 {
		g := anyGate(r)
		outer, inner := from(r, -3500, 3500), from(r, -3500, 3500)
		p, e := gate.Falls(g, outer, inner)
		if e != api.OK {
			t.Fatal(e)
		}
		if p != -1 {
			// Where it does not fall it stays, without power.
			if n, e := gate.Time(g, api.GtState{Pos: p}, outer, inner, false); n != 0 || e != api.ErrDown {
				t.Fatalf("%+v, %d and %d, from %d: %d, %d", g, outer, inner, p, n, e)
			}
			continue
		}
		many++
		for pos := range g.Travel + 1 {
			want := up(g.Travel-pos, g.Gravity)
			if n, e := gate.Time(g, api.GtState{Pos: pos}, outer, inner, false); n != want || e != api.OK {
				t.Fatalf("%+v, %d and %d, from %d: %d, %d; not %d", g, outer, inner, pos, n, e, want)
			}
			l := slices.Repeat([]api.GtStep{{Order: api.GtClose, Outer: outer, Inner: inner}}, want)
			states, e := gate.Run(g, api.GtState{Pos: pos}, l)
			if e != api.OK || want > 0 && states[want-1].Pos != g.Travel || want > 1 && states[want-2].Pos == g.Travel {
				t.Fatalf("%+v, %d and %d, from %d: %+v, %d", g, outer, inner, pos, states, e)
			}
		}
	}
	if many < 150 {
		t.Errorf("%d close by gravity alone: too few", many)
	}
}
