package gate_test

import (
	"fmt"
	"math"
	"math/rand"
	"reflect"
	"slices"
	"testing"

	"barrage/api"
	"barrage/gate"
)

// sp returns a span.
func sp(lo, hi int) api.Span { return api.Span{Lo: lo, Hi: hi} }

// ints returns a list of numbers.
func ints(l ...int) []int { return l }

// same reports whether two results are equal; a nil list and an empty one are, wherever they are in them.
func same(a, b any) bool { return fmt.Sprint(a) == fmt.Sprint(b) }

// wild are numbers far beyond all limits, and some at them.
func wild() []int {
	return []int{math.MinInt, math.MinInt + 1, math.MinInt32, -1, math.MaxInt32, math.MaxInt - 1, math.MaxInt}
}

// label returns the name of the gate with an index.
func label(i int) string { return "n" + string(rune('a'+i)) }

// east returns the gate G of the chapter's examples.
func east() api.GtGate {
	return api.GtGate{
		Name: "east", Kind: api.GtLift, Travel: 1000, Own: ints(600, 400),
		Open: 8000, Shut: -2000, Height: 9000, Float: 40, Push: 0, Slide: 5, Seal: 20, Drive: 900, Brake: 700,
		Speed: 25, Gravity: 40, Use: 100, Pump: 30, Capacity: 200, Slack: 10,
		Sensors: []api.GtSensor{{Kind: api.GtEncoder, Tol: 10}, {Kind: api.GtEncoder, Tol: 10}, {Kind: api.GtSwitch, At: 995, Tol: 5}},
		Wrong:   1,
	}
}

// pair returns the set S of the chapter's examples.
func pair() api.GtSet {
	west := east()
	west.Name = "west"
	return api.GtSet{Gates: []api.GtGate{east(), west}, Rules: []api.GtRule{{Gate: 1, Other: 0, Lo: 1000, Hi: 1000}}}
}

// pushed returns a gate of 100 cm on which the closing force is the same everywhere, and nothing else.
func pushed(force int) api.GtGate {
	kind := api.GtLift
	if force < 0 {
		kind = api.GtFlap
	}
	return api.GtGate{Name: "lock", Kind: kind, Travel: 100, Own: ints(force, force), Height: 1, Speed: 7, Gravity: 10, Capacity: 1000}
}

// sensed returns a gate of 100 cm with sensors of which so many may be wrong.
func sensed(wrong int, l ...api.GtSensor) api.GtGate {
	g := pushed(0)
	g.Slack, g.Sensors, g.Wrong = 10, l, wrong
	return g
}

// encoder returns a sensor.
func encoder(tol int) api.GtSensor { return api.GtSensor{Kind: api.GtEncoder, Tol: tol} }

// switchAt returns a sensor.
func switchAt(at, tol int) api.GtSensor { return api.GtSensor{Kind: api.GtSwitch, At: at, Tol: tol} }

// setOf returns a set without rules.
func setOf(l ...api.GtGate) api.GtSet {
	for i := range l {
		l[i].Name = label(i)
	}
	return api.GtSet{Gates: l}
}

// from returns a number from lo to hi, often one of both.
func from(r *rand.Rand, lo, hi int) int {
	switch r.Intn(6) {
	case 0:
		return lo
	case 1:
		return hi
	}
	return lo + r.Intn(hi-lo+1)
}

// anyGate returns a gate without errors whose forces, frictions and drives are about as great as each other.
func anyGate(r *rand.Rand) api.GtGate {
	g := api.GtGate{
		Name: "lock", Kind: from(r, api.GtSector, api.GtFlap), Travel: from(r, 1, 60),
		Open: from(r, -500, 3000), Shut: from(r, -3000, 500), Height: from(r, 1, 4000),
		Float: from(r, 0, 40), Push: from(r, -30, 30), Slide: from(r, 0, 9), Seal: from(r, 0, 20),
		Drive: from(r, 0, 150), Brake: from(r, 0, 50), Speed: from(r, 1, 9), Gravity: from(r, 1, 9),
		Use: from(r, 0, 300), Pump: from(r, 0, 6), Capacity: from(r, 0, 60),
	}
	if r.Intn(3) == 0 {
		g.Float, g.Push = 0, 0
	}
	for range from(r, 2, 5) {
		switch g.Kind {
		case api.GtSector:
			g.Own = append(g.Own, 0)
		case api.GtLift:
			g.Own = append(g.Own, from(r, 0, 99))
		case api.GtFlap:
			g.Own = append(g.Own, from(r, -99, 0))
		}
	}
	g.Slack = from(r, 0, (g.Travel-1)/2)
	for range from(r, 0, 4) {
		s := encoder(from(r, 0, 5))
		if r.Intn(2) == 0 {
			s = switchAt(from(r, 0, g.Travel+9), from(r, 0, 5))
		}
		g.Sensors = append(g.Sensors, s)
	}
	g.Wrong = r.Intn(len(g.Sensors) + 1)
	return g
}

// anyState returns a state of a gate.
func anyState(r *rand.Rand, g api.GtGate) api.GtState {
	return api.GtState{Pos: from(r, 0, g.Travel), Charge: from(r, 0, g.Capacity), Bolted: r.Intn(8) == 0}
}

// anyStep returns a step without errors.
func anyStep(r *rand.Rand) api.GtStep {
	return api.GtStep{Order: r.Intn(3), Power: r.Intn(2) == 0, Outer: from(r, -3500, 3500), Inner: from(r, -3500, 3500)}
}

// anySet returns a set without errors, of some gates with rules for them.
func anySet(r *rand.Rand) api.GtSet {
	var l api.GtSet
	for i := range from(r, 1, 4) {
		g := anyGate(r)
		g.Name = label(i)
		l.Gates = append(l.Gates, g)
	}
	for range r.Intn(4) {
		x := api.GtRule{Gate: r.Intn(len(l.Gates)), Other: r.Intn(len(l.Gates)), Lo: from(r, 0, 30)}
		x.Hi = from(r, x.Lo, 60)
		if x.Gate != x.Other {
			l.Rules = append(l.Rules, x)
		}
	}
	return l
}

// anyReadings returns readings of the sensors of a gate at a position, of which at most so many are wrong.
func anyReadings(r *rand.Rand, g api.GtGate, pos, wrong int) []int {
	var out []int
	for _, s := range g.Sensors {
		reading := pos + from(r, -s.Tol, s.Tol)
		if s.Kind == api.GtSwitch {
			reading = r.Intn(2)
			if !agrees(s, reading, pos) {
				reading = 1 - reading
			}
		}
		out = append(out, reading)
	}
	for range wrong {
		if len(out) > 0 {
			out[r.Intn(len(out))] = []int{0, 1, 2, r.Intn(70), math.MinInt, math.MaxInt}[r.Intn(6)]
		}
	}
	return out
}

// agrees reports whether a sensor agrees with a position, by the definition alone.
func agrees(s api.GtSensor, reading, pos int) bool {
	if s.Kind == api.GtEncoder {
		d := pos - reading
		if reading < -20000 || reading > 20000 {
			return false
		}
		return -s.Tol <= d && d <= s.Tol
	}
	return reading == 1 && pos+s.Tol >= s.At || reading == 0 && pos-s.Tol <= s.At
}

// copyGate returns a gate that shares no memory with g.
func copyGate(g api.GtGate) api.GtGate {
	g.Own = slices.Clone(g.Own)
	g.Sensors = slices.Clone(g.Sensors)
	return g
}

// copySet returns a set that shares no memory with l.
func copySet(l api.GtSet) api.GtSet {
	l.Gates = slices.Clone(l.Gates)
	for i, g := range l.Gates {
		l.Gates[i] = copyGate(g)
	}
	l.Rules = slices.Clone(l.Rules)
	return l
}

// result is what a function returned, and by which name.
type result struct {
	name  string
	value any
	e     api.Errno
}

// asked is arguments of the functions about one gate, or about a set.
type asked struct {
	state        api.GtState
	step         api.GtStep
	steps        []api.GtStep
	pos          int
	outer, inner int
	power, on    bool
	readings     []int
	states       []api.GtState
	orders       []api.GtStep
	ships        []bool
}

// single calls all functions about one gate but Check.
func single(g api.GtGate, x asked) []result {
	var out []result
	put := func(name string, value any, e api.Errno) { out = append(out, result{name, value, e}) }
	net, rub, e := gate.Force(g, x.pos, x.outer, x.inner)
	put("Force", [2]int{net, rub}, e)
	falls, e := gate.Falls(g, x.outer, x.inner)
	put("Falls", falls, e)
	s, m, e := gate.Step(g, x.state, x.step)
	put("Step", stepped{s, m}, e)
	l, e := gate.Run(g, x.state, x.steps)
	put("Run", l, e)
	n, e := gate.Time(g, x.state, x.outer, x.inner, x.power)
	put("Time", n, e)
	where, e := gate.Where(g, x.readings)
	put("Where", where, e)
	sure, e := gate.Sure(g, x.readings)
	put("Sure", sure, e)
	bolted, e := gate.Bolt(g, x.state, x.on, x.readings)
	put("Bolt", bolted, e)
	return out
}

// stepped is what Step returns.
type stepped struct {
	State api.GtState
	Moved api.GtMoved
}

// moved is what Move returns.
type moved struct {
	States []api.GtState
	Moved  []api.GtMoved
}

// joint calls all functions about a set but CheckSet.
func joint(l api.GtSet, x asked) []result {
	states, done, e := gate.Move(l, x.states, x.orders, x.ships)
	n, f := gate.Delay(l, x.states, x.outer, x.inner, x.power)
	return []result{{"Move", moved{states, done}, e}, {"Delay", n, f}}
}

// isZero reports whether there is nothing in what a function returned.
func isZero(x result) bool {
	v := reflect.ValueOf(x.value)
	if m, ok := x.value.(moved); ok {
		return len(m.States) == 0 && len(m.Moved) == 0
	}
	return v.IsZero() || v.Kind() == reflect.Slice && v.Len() == 0
}

// need stops a test if a gate that has to be right has an error.
func need(t *testing.T, g api.GtGate) {
	t.Helper()
	if part, at, e := gate.Check(g); part != 0 || at != 0 || e != api.OK {
		t.Fatalf("%+v: %d, %d, %d", g, part, at, e)
	}
}

// needSet stops a test if a set that has to be right has an error.
func needSet(t *testing.T, l api.GtSet) {
	t.Helper()
	if part, at, e := gate.CheckSet(l); part != 0 || at != 0 || e != api.OK {
		t.Fatalf("%+v: %d, %d, %d", l, part, at, e)
	}
}
