package gate_test

import (
	"math/rand"
	"reflect"
	"slices"
	"testing"

	"barrage/api"
	"barrage/gate"
)

// The examples of the chapter about one gate.
func TestExamples(t *testing.T) {
	g := east()
	need(t, g)
	force(t, "open", g, 0, 3000, 1000, 600, 20)
	force(t, "shut", g, 1000, 3000, 1000, 280, 70)
	falls(t, "a storm", g, 3000, 1000, -1)
	falls(t, "a flood", g, 9000, 8000, 891)
	force(t, "where it does not fall", g, 891, 9000, 8000, 65, 65)
	step(t, "close", g, api.GtState{}, api.GtStep{Order: api.GtClose, Outer: 3000, Inner: 1000}, api.GtState{Pos: 40}, api.GtMoved{Moved: 40})
	open := api.GtStep{Order: api.GtOpen, Power: true, Outer: 3000, Inner: 1000}
	step(t, "open", g, api.GtState{Pos: 100, Charge: 100}, open, api.GtState{Pos: 75, Charge: 105}, api.GtMoved{Moved: -25, Oil: 25})
	step(t, "open", g, api.GtState{Pos: 100, Charge: 10}, open, api.GtState{Pos: 90, Charge: 30}, api.GtMoved{Moved: -10, Oil: 10})
	if n, e := gate.Time(g, api.GtState{}, 3000, 1000, false); n != 25 || e != api.OK {
		t.Errorf("Time: %d, %d", n, e)
	}
	where(t, "between", g, ints(500, 510, 0), sp(490, 520))
	where(t, "one is wrong", g, ints(500, 900, 0), sp(490, 910))
	where(t, "shut", g, ints(1000, 990, 1), sp(990, 1000))
	for i, readings := range [][]int{{500, 510, 0}, {1000, 990, 1}} {
		if end, e := gate.Sure(g, readings); end != []int{api.GtNoEnd, api.GtShutEnd}[i] || e != api.OK {
			t.Errorf("Sure of %v: %d, %d", readings, end, e)
		}
	}
}

// The examples of the chapter about a set.
func TestExamplesOfSets(t *testing.T) {
	l := pair()
	needSet(t, l)
	x := api.GtStep{Order: api.GtClose, Outer: 3000, Inner: 1000}
	steps := []api.GtStep{x, x}
	moves(t, "both close", l, at(0, 0), steps, []bool{false, false}, moved{at(40, 0), []api.GtMoved{{Moved: 40}, {Refused: api.GtErrRule}}})
	moves(t, "a ship at east", l, at(0, 0), steps, []bool{true, false}, moved{at(0, 0), []api.GtMoved{{Refused: api.GtErrShip}, {Refused: api.GtErrRule}}})
	if n, e := gate.Delay(l, at(0, 0), 3000, 1000, false); n != 5 || e != api.OK {
		t.Errorf("Delay: %d, %d", n, e)
	}
}

// input is arguments for all functions.
type input struct {
	gate  api.GtGate
	set   api.GtSet
	asked asked
}

// copyInput returns arguments that share no memory with x.
func copyInput(x input) input {
	x.gate, x.set = copyGate(x.gate), copySet(x.set)
	a := &x.asked
	a.steps, a.readings = slices.Clone(a.steps), slices.Clone(a.readings)
	a.states, a.orders, a.ships = slices.Clone(a.states), slices.Clone(a.orders), slices.Clone(a.ships)
	return x
}

// every calls all functions.
func every(x input) []result {
	part, at, e := gate.Check(x.gate)
	out := append(single(x.gate, x.asked), result{"Check", [2]int{part, at}, e})
	part, at, e = gate.CheckSet(x.set)
	return append(append(out, joint(x.set, x.asked)...), result{"CheckSet", [2]int{part, at}, e})
}

// odd returns a number that is right, at a limit or beyond it, or far beyond.
func odd(r *rand.Rand) int {
	switch r.Intn(8) {
	case 0:
		return wild()[r.Intn(len(wild()))]
	case 1:
		return []int{-20001, -20000, -10000, -1, 0, 1, 2, 3, 4, 100, 101, 5000, 5001, 10000, 20000, 20001, 30000, 100000, 200000, 200001}[r.Intn(20)]
	}
	return r.Intn(25)
}

// rightInput returns arguments without errors, but for some readings.
func rightInput(r *rand.Rand) input {
	x := input{gate: anyGate(r), set: anySet(r)}
	x.asked = asked{
		state: anyState(r, x.gate), step: anyStep(r), pos: from(r, 0, x.gate.Travel),
		outer: from(r, -3500, 3500), inner: from(r, -3500, 3500), power: r.Intn(2) == 0, on: r.Intn(2) == 0,
	}
	a := &x.asked
	for range r.Intn(10) {
		a.steps = append(a.steps, anyStep(r))
	}
	a.readings = anyReadings(r, x.gate, a.state.Pos, r.Intn(2))
	for _, g := range x.set.Gates {
		a.states, a.orders, a.ships = append(a.states, anyState(r, g)), append(a.orders, anyStep(r)), append(a.ships, r.Intn(2) == 0)
	}
	return x
}

// numbersOf returns where the numbers of a gate are.
func numbersOf(g *api.GtGate) []*int {
	l := []*int{
		&g.Kind, &g.Travel, &g.Own[0], &g.Own[len(g.Own)-1], &g.Open, &g.Shut, &g.Height, &g.Float, &g.Push, &g.Slide, &g.Seal,
		&g.Drive, &g.Brake, &g.Speed, &g.Gravity, &g.Use, &g.Pump, &g.Capacity, &g.Slack, &g.Wrong,
	}
	for i := range g.Sensors {
		l = append(l, &g.Sensors[i].Kind, &g.Sensors[i].At, &g.Sensors[i].Tol)
	}
	return l
}

// oddInput returns arguments of which many are not right.
func oddInput(r *rand.Rand) input {
	x := rightInput(r)
	a := &x.asked
	numbers := []*int{&a.state.Pos, &a.state.Charge, &a.step.Order, &a.step.Outer, &a.step.Inner, &a.pos, &a.outer, &a.inner, &a.states[0].Pos, &a.orders[0].Order}
	for i := range a.readings {
		numbers = append(numbers, &a.readings[i])
	}
	for i := range x.set.Rules {
		numbers = append(numbers, &x.set.Rules[i].Gate, &x.set.Rules[i].Other, &x.set.Rules[i].Lo, &x.set.Rules[i].Hi)
	}
	if r.Intn(2) == 0 {
		numbers = append(numbers, numbersOf(&x.gate)...)
		numbers = append(numbers, numbersOf(&x.set.Gates[r.Intn(len(x.set.Gates))])...)
	}
	for range 1 + r.Intn(3) {
		*numbers[r.Intn(len(numbers))] = odd(r)
	}
	if r.Intn(8) == 0 {
		a.readings = make([]int, r.Intn(8))
		a.states = make([]api.GtState, r.Intn(8))
	}
	if r.Intn(8) == 0 {
		x.gate.Own = make([]int, r.Intn(20))
		x.gate.Sensors = make([]api.GtSensor, r.Intn(9))
	}
	return x
}

// slicesOf returns the addresses of the first elements of the lists in what a function returned.
func slicesOf(v reflect.Value) []uintptr {
	var out []uintptr
	switch v.Kind() {
	case reflect.Slice:
		if v.Len() > 0 {
			out = append(out, v.Pointer())
		}
	case reflect.Struct:
		for i := range v.NumField() {
			out = append(out, slicesOf(v.Field(i))...)
		}
	}
	return out
}

// overwrite changes all memory that a value has.
func overwrite(v reflect.Value) {
	switch v.Kind() {
	case reflect.Slice:
		for i := range v.Len() {
			overwrite(v.Index(i))
		}
	case reflect.Struct:
		for i := range v.NumField() {
			overwrite(v.Field(i))
		}
	case reflect.Int:
		if v.CanSet() {
			v.SetInt(-7)
		}
	case reflect.Bool:
		if v.CanSet() {
			v.SetBool(!v.Bool())
		}
	}
}

// P3.16: any arguments are accepted, and not modified; the same ones have the same results, and these are new memory.
func TestP3_16Any(t *testing.T) {
	r := rand.New(rand.NewSource(316))
	every(input{})
	right := 0
	for i := range 1200 {
		x := oddInput(r)
		if i%2 == 0 {
			x = rightInput(r)
		}
		before := copyInput(x)
		first := every(x)
		if !reflect.DeepEqual(x, before) {
			t.Fatalf("%+v was modified", before)
		}
		second, kept := every(x), every(copyInput(x))
		for j := range first {
			a, b, c := first[j], second[j], kept[j]
			if !reflect.DeepEqual(a, b) {
				t.Fatalf("%+v: %v, then %v", before, a, b)
			}
			// Check and CheckSet tell where the error is.
			if a.e != api.OK && !isZero(a) && a.name != "Check" && a.name != "CheckSet" {
				t.Fatalf("%+v: %v", before, a)
			}
			if a.e == api.OK {
				right++
			}
			l := slicesOf(reflect.ValueOf(a.value))
			slices.Sort(l)
			if len(slices.Compact(slices.Clone(l))) != len(l) {
				t.Fatalf("%+v: two lists of %v share memory", before, a)
			}
			overwrite(reflect.ValueOf(a.value))
			if !reflect.DeepEqual(x, before) || !reflect.DeepEqual(b, c) {
				t.Fatalf("%+v: %s is not new memory", before, a.name)
			}
		}
	}
	if right < 6000 {
		t.Errorf("%d results without an error: too few", right)
	}
}

// P1, P3.16: a set at all of its limits, which takes as long as can be.
func TestP3_16Full(t *testing.T) {
	g := api.GtGate{
		Kind: api.GtLift, Travel: 5000, Own: slices.Repeat(ints(200000, 0), 8), Open: 20000, Shut: -20000, Height: 30000,
		Float: 10000, Push: -10000, Slide: 10000, Seal: 200000, Drive: 200000, Brake: 200000, Speed: 100, Gravity: 100,
		Use: 100000, Pump: 100000, Capacity: 100000, Slack: 2499, Sensors: slices.Repeat([]api.GtSensor{switchAt(5000, 5000)}, 6), Wrong: 6,
	}
	l := setOf(g, g, g, g, g, g)
	for i := range 12 {
		l.Rules = append(l.Rules, api.GtRule{Gate: i % 6, Other: (i + 1 + i/6) % 6, Lo: i % 2, Hi: 5000})
	}
	needSet(t, l)
	need(t, l.Gates[0])
	states := slices.Repeat([]api.GtState{{Pos: 4999, Charge: 100000}}, 6)
	if n, e := gate.Delay(l, states, 20000, -20000, true); n != 0 || e != api.ErrDown {
		t.Errorf("Delay: %d, %d", n, e)
	}
	if s, e := gate.Run(l.Gates[0], states[0], slices.Repeat([]api.GtStep{{Order: api.GtOpen, Power: true, Outer: 20000, Inner: -20000}}, 2000)); len(s) != 2000 || e != api.OK {
		t.Errorf("Run: %d states, %d", len(s), e)
	}
	if p, e := gate.Falls(l.Gates[0], -20000, 20000); p != 106 || e != api.OK {
		t.Errorf("Falls: %d, %d", p, e) // there 536400 and 539200
	}
}
