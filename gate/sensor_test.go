package gate_test

import (
	"math"
	"math/rand"
	"slices"
	"testing"

	"barrage/api"
	"barrage/gate"
)

// where tests on which positions the sensors of a gate agree.
func where(t *testing.T, what any, g api.GtGate, readings []int, want api.Span) {
	t.Helper()
	need(t, g)
	if s, e := gate.Where(g, readings); s != want || e != api.OK {
		t.Errorf("%v, %v: %v, %d; not %v", what, readings, s, e, want)
	}
}

// noWhere tests that Where and Sure have an error, and nothing else.
func noWhere(t *testing.T, what any, g api.GtGate, readings []int, want api.Errno) {
	t.Helper()
	need(t, g)
	if s, e := gate.Where(g, readings); s != sp(0, 0) || e != want {
		t.Errorf("%v, %v: %v, %d; not %d", what, readings, s, e, want)
	}
	if end, e := gate.Sure(g, readings); end != 0 || e != want {
		t.Errorf("%v, %v: Sure %d, %d; not %d", what, readings, end, e, want)
	}
}

// P3.5: what one sensor says.
func TestP3_5One(t *testing.T) {
	where(t, "no sensors", sensed(0), nil, sp(0, 100))
	where(t, "no sensors", sensed(0), ints(), sp(0, 100))
	g := sensed(0, encoder(10))
	for reading, want := range map[int]api.Span{-10: sp(0, 0), -9: sp(0, 1), 0: sp(0, 10), 10: sp(0, 20), 11: sp(1, 21), 50: sp(40, 60), 90: sp(80, 100), 91: sp(81, 100), 110: sp(100, 100)} {
		where(t, "an encoder", g, ints(reading), want)
	}
	where(t, "an exact encoder", sensed(0, encoder(0)), ints(7), sp(7, 7))
	where(t, "a coarse encoder", sensed(0, encoder(5000)), ints(5100), sp(100, 100))
	for _, reading := range append(wild(), -11, 111) {
		if reading != -1 {
			noWhere(t, "an encoder", g, ints(reading), api.ErrDown)
		}
	}
	for _, c := range []struct{ at, tol, on, off int }{{50, 0, 50, 50}, {50, 10, 40, 60}, {5, 10, 0, 15}, {95, 10, 85, 100}, {0, 0, 0, 0}, {100, 0, 100, 100}, {105, 5, 100, 100}} {
		g := sensed(0, switchAt(c.at, c.tol))
		where(t, "a switch that is on", g, ints(1), sp(c.on, 100))
		where(t, "a switch that is off", g, ints(0), sp(0, c.off))
		for _, reading := range append(wild(), 2, 50) {
			noWhere(t, "a switch that says nothing", g, ints(reading), api.ErrDown)
		}
	}
	noWhere(t, "a switch beyond the end", sensed(0, switchAt(106, 5)), ints(1), api.ErrDown)
	where(t, "a switch beyond the end", sensed(0, switchAt(106, 5)), ints(0), sp(0, 100))
}

// P3.5: what several sensors say, of which some may be wrong.
func TestP3_5Several(t *testing.T) {
	e, far := encoder(5), switchAt(50, 0)
	for _, c := range []struct {
		what     string
		gate     api.GtGate
		readings []int
		want     api.Span
	}{
		{"both", sensed(0, e, e), ints(50, 57), sp(52, 55)},
		{"both, just", sensed(0, e, e), ints(50, 60), sp(55, 55)},
		{"one of both", sensed(1, e, e), ints(50, 57), sp(45, 62)},
		{"one of both, with a gap", sensed(1, e, e), ints(20, 80), sp(15, 85)},
		{"one of both, of which one says nothing", sensed(1, e, e), ints(20, 500), sp(15, 25)},
		{"none of both", sensed(2, e, e), ints(500, 500), sp(0, 100)},
		{"two of three", sensed(1, e, e, e), ints(20, 28, 80), sp(23, 25)},
		{"two of three, in two ways", sensed(1, e, e, e), ints(20, 28, 36), sp(23, 33)},
		{"an encoder and a switch", sensed(0, e, far), ints(48, 1), sp(50, 53)},
		{"an encoder and a switch", sensed(0, e, far), ints(48, 0), sp(43, 50)},
		{"two switches", sensed(0, far, switchAt(30, 2)), ints(0, 1), sp(28, 50)},
		{"two switches, one of them wrong", sensed(1, far, switchAt(30, 2)), ints(1, 0), sp(0, 100)},
		{"a broken switch", sensed(1, e, far), ints(20, 7), sp(15, 25)},
		{"six, three of them wrong", sensed(3, e, e, e, e, e, e), ints(10, 12, 14, 80, 90, 500), sp(9, 15)},
	} {
		where(t, c.what, c.gate, c.readings, c.want)
	}
	noWhere(t, "both, just not", sensed(0, e, e), ints(50, 61), api.ErrDown)
	noWhere(t, "two of three", sensed(1, e, e, e), ints(20, 50, 80), api.ErrDown)
	noWhere(t, "two switches", sensed(0, far, switchAt(30, 2)), ints(1, 0), api.ErrDown)
	noWhere(t, "six", sensed(2, e, e, e, e, e, e), ints(10, 12, 14, 80, 90, 500), api.ErrDown)
}

// P3.5: as many readings as there are sensors, before anything else is looked at.
func TestP3_5Readings(t *testing.T) {
	for n := range 7 {
		g := sensed(0, slices.Repeat([]api.GtSensor{encoder(5)}, n)...)
		for many := range 9 {
			readings := slices.Repeat(ints(50), many)
			switch {
			case many != n:
				noWhere(t, n, g, readings, api.ErrArg)
			case n > 0:
				where(t, n, g, readings, sp(45, 55))
			}
		}
	}
	noWhere(t, "too many", sensed(0, encoder(0), encoder(0)), ints(1, 2, 3), api.ErrArg)
}

// P3.5: at which end a gate is.
func TestP3_5Sure(t *testing.T) {
	for _, c := range []struct{ slack, tol, reading, want int }{
		{10, 5, 5, api.GtOpenEnd}, {10, 5, 6, api.GtNoEnd}, {10, 5, 0, api.GtOpenEnd}, {10, 5, -5, api.GtOpenEnd},
		{10, 5, 95, api.GtShutEnd}, {10, 5, 94, api.GtNoEnd}, {10, 5, 100, api.GtShutEnd}, {10, 5, 105, api.GtShutEnd}, {10, 5, 50, api.GtNoEnd},
		{0, 0, 0, api.GtOpenEnd}, {0, 0, 1, api.GtNoEnd}, {0, 0, 99, api.GtNoEnd}, {0, 0, 100, api.GtShutEnd}, {0, 1, 0, api.GtNoEnd}, {0, 1, -1, api.GtOpenEnd}, {0, 1, 101, api.GtShutEnd},
		{49, 0, 49, api.GtOpenEnd}, {49, 0, 50, api.GtNoEnd}, {49, 0, 51, api.GtShutEnd}, {49, 100, 50, api.GtNoEnd},
	} {
		g := sensed(0, encoder(c.tol))
		g.Slack = c.slack
		need(t, g)
		if end, e := gate.Sure(g, ints(c.reading)); end != c.want || e != api.OK {
			t.Errorf("%+v: %d, %d", c, end, e)
		}
	}
	if end, e := gate.Sure(sensed(0), nil); end != api.GtNoEnd || e != api.OK {
		t.Errorf("without sensors: %d, %d", end, e)
	}
	// Each of both ends is possible, and what is between is not.
	if end, e := gate.Sure(sensed(1, encoder(0), encoder(0)), ints(0, 100)); end != api.GtNoEnd || e != api.OK {
		t.Errorf("at one of both ends: %d, %d", end, e)
	}
}

// P3.5, P3.12: all positions with which enough sensors agree, and no other ones; the true one is among them if no more than Wrong are wrong.
func TestP3_12Where(t *testing.T) {
	r := rand.New(rand.NewSource(312))
	counts := map[string]int{}
	for range 8000 {
		g := anyGate(r)
		pos := r.Intn(g.Travel + 1)
		wrong := r.Intn(g.Wrong + 2)
		readings := anyReadings(r, g, pos, wrong)
		var all []int
		for p := range g.Travel + 1 {
			n := 0
			for i, s := range g.Sensors {
				if agrees(s, readings[i], p) {
					n++
				}
			}
			if n+g.Wrong >= len(g.Sensors) {
				all = append(all, p)
			}
		}
		if len(all) == 0 {
			counts["nowhere"]++
			noWhere(t, g, g, readings, api.ErrDown)
		} else {
			where(t, g, g, readings, sp(all[0], all[len(all)-1]))
		}
		s, _ := gate.Where(g, readings)
		switch {
		case wrong <= g.Wrong && (len(all) == 0 || pos < s.Lo || pos > s.Hi):
			t.Fatalf("%+v, %v: %v; it is at %d", g, readings, s, pos)
		case len(all) > 0 && (pos < s.Lo || pos > s.Hi):
			counts["elsewhere"]++
		case len(all) > 0 && len(all) <= g.Travel:
			counts["around it"]++
		}
	}
	for _, what := range []string{"nowhere", "elsewhere", "around it"} {
		if counts[what] < 100 {
			t.Errorf("%v: too much alike", counts)
		}
	}
}

// bolt tests which state there is after Bolt, or which error.
func bolt(t *testing.T, what any, g api.GtGate, s api.GtState, on bool, readings []int, want api.GtState, e api.Errno) {
	t.Helper()
	need(t, g)
	if a, f := gate.Bolt(g, s, on, readings); a != want || f != e {
		t.Errorf("%v: %+v, %d; not %+v, %d", what, a, f, want, e)
	}
}

// P3.6: a gate is bolted where it is certainly at an end, and wherever it really is.
func TestP3_6Bolt(t *testing.T) {
	g := sensed(1, encoder(5), encoder(5), switchAt(95, 0))
	is, none := api.GtState{Pos: 50, Charge: 7}, api.GtState{}
	bolted := is
	bolted.Bolted = true
	bolt(t, "shut", g, is, true, ints(100, 97, 1), bolted, api.OK)
	bolt(t, "shut, and one is wrong", g, is, true, ints(100, 20, 1), bolted, api.OK)
	bolt(t, "open", g, is, true, ints(0, 3, 0), bolted, api.OK)
	bolt(t, "not sure", g, is, true, ints(50, 50, 0), none, api.ErrDown)
	bolt(t, "no agreement", g, is, true, ints(50, 70, 1), none, api.ErrDown)
	bolt(t, "too few readings", g, is, true, ints(100, 97), none, api.ErrArg)
	bolt(t, "without readings", g, is, true, nil, none, api.ErrArg)
	bolt(t, "twice", g, bolted, true, ints(100, 97, 1), none, api.ErrTwice)
	bolt(t, "twice, without readings", g, bolted, true, nil, none, api.ErrTwice)
	bolt(t, "taken away", g, bolted, false, ints(100, 97, 1), is, api.OK)
	bolt(t, "taken away, without readings", g, bolted, false, nil, is, api.OK)
	bolt(t, "taken away, with too many", g, bolted, false, make([]int, 10), is, api.OK)
	bolt(t, "taken away twice", g, is, false, ints(100, 97, 1), none, api.ErrNone)
	bolt(t, "taken away twice, without readings", g, is, false, nil, none, api.ErrNone)
}

// P3.6: states that are none, before all else.
func TestP3_6Range(t *testing.T) {
	g := sensed(0, encoder(5))
	for _, n := range append(wild(), 0, 1, 100, 101, 1000, 1001) {
		for _, s := range []api.GtState{{Pos: n}, {Charge: n}} {
			for _, before := range []bool{false, true} {
				s.Bolted = before
				right := 0 <= n && (n <= 100 || s.Pos == 0 && n <= 1000)
				for _, on := range []bool{false, true} {
					after, want := s, api.OK
					after.Bolted = on
					switch {
					case !right:
						want = api.ErrRange
					case on && before:
						want = api.ErrTwice
					case !on && !before:
						want = api.ErrNone
					}
					if want != api.OK {
						after = api.GtState{}
					}
					bolt(t, n, g, s, on, ints(100), after, want)
					if !right {
						bolt(t, n, g, s, on, nil, api.GtState{}, api.ErrRange)
					}
				}
			}
		}
	}
}

// P3.13: a gate that is bolted is at an end, if no more than Wrong sensors are wrong, and stays there until the bolts are taken away.
func TestP3_13Bolted(t *testing.T) {
	r := rand.New(rand.NewSource(313))
	many, slipped := 0, 0
	for range 20000 {
		g := anyGate(r)
		s := anyState(r, g)
		s.Bolted = false
		b, e := gate.Bolt(g, s, true, anyReadings(r, g, s.Pos, r.Intn(g.Wrong+1)))
		if e != api.OK {
			continue
		}
		many++
		if s.Pos > g.Slack && s.Pos < g.Travel-g.Slack {
			t.Fatalf("%+v is bolted at %d", g, s.Pos)
		}
		var l []api.GtStep
		for range 20 {
			l = append(l, anyStep(r))
		}
		states, e := gate.Run(g, b, l)
		if e != api.OK || slices.ContainsFunc(states, func(x api.GtState) bool { return x.Pos != s.Pos || !x.Bolted }) {
			t.Fatalf("%+v, %+v: %+v, %d", g, b, states, e)
		}
		free, e := gate.Bolt(g, states[19], false, nil)
		if e != api.OK || free.Bolted || free.Pos != s.Pos {
			t.Fatalf("%+v, %+v: %+v, %d", g, states[19], free, e)
		}
		states, _ = gate.Run(g, free, l)
		if states[19].Pos != s.Pos {
			slipped++
		}
	}
	if many < 2000 || slipped < 500 {
		t.Errorf("%d are bolted, %d of them move when they are not: too few", many, slipped)
	}
}

// P3.5: a gate at all of its limits.
func TestP3_5Full(t *testing.T) {
	g := sensed(3, encoder(5000), encoder(0), encoder(0), switchAt(5000, 5000), switchAt(0, 0), switchAt(5000, 0))
	g.Travel, g.Slack = 5000, 2499
	where(t, "full", g, ints(0, 4999, 1, math.MinInt, 1, 0), sp(0, 5000))
	g.Wrong = 2
	where(t, "full", g, ints(0, 4999, 1, math.MinInt, 1, 0), sp(1, 4999))
	g.Wrong = 1
	noWhere(t, "full", g, ints(0, 4999, 1, math.MinInt, 1, 0), api.ErrDown)
}
