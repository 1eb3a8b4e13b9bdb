package basin_test

import (
	"math/rand"
	"reflect"
	"slices"
	"testing"

	"barrage/api"
	"barrage/basin"
)

// The examples of the chapter about levels and ticks.
func TestExamples(t *testing.T) {
	b := estuary()
	level(t, "example", b, 1000000, sp(0, 0), api.OK)
	level(t, "example", b, 1307000, sp(153, 154), api.OK)
	volume(t, "example", b, 153, 1306000, api.OK)
	volume(t, "example", b, -1000, 0, api.OK)
	one := api.BsFlows{River: 60000, Leak: 247000, Taken: ints(0, 0)}
	two := api.BsFlows{River: 60000, Leak: 231650, Taken: ints(29797, 0)}
	step(t, "first", b, still(), storm(), state(1307000, 0, 0), one)
	step(t, "second", b, state(1307000, 0, 0), storm(), state(1568853, 29797, 0), two)
	step(t, "over", b, still(), tick(3100, 0, 0), state(1357500, 0, 0), api.BsFlows{Over: 50000, Leak: 307500, Taken: ints(0, 0)})
	step(t, "out", b, still(), tick(-500, 0, 2000000), state(0, 0, 0), api.BsFlows{Leak: -50000, Out: 950000, Taken: ints(0, 0)})
	states, flows, e := basin.Run(b, still(), storms(2))
	if !same(states, []api.BsState{state(1307000, 0, 0), state(1568853, 29797, 0)}) || !same(flows, []api.BsFlows{one, two}) || e != api.OK {
		t.Errorf("Run: %v, %v, %d", states, flows, e)
	}
}

// The examples of the chapter about several ticks.
func TestExamplesOfTicks(t *testing.T) {
	for limit, want := range map[int]int{285: 2, 284: 1, 153: 0} {
		n, e := basin.Stay(estuary(), still(), storms(3), limit)
		gives(t, limit, n, e, want, api.OK)
	}
	for _, n := range ints(2, 3) {
		if l, e := basin.Floods(estuary(), still(), storms(n)); !slices.Equal(l, ints(1, -1)) || e != api.OK {
			t.Errorf("Floods of %d: %v, %d", n, l, e)
		}
	}
}

// input is arguments for all functions.
type input struct {
	basin api.BsBasin
	asked asked
}

// copyInput returns arguments that share no memory with x.
func copyInput(x input) input {
	x.basin = copyBasin(x.basin)
	a := &x.asked
	a.state, a.ticks, a.flows = copyState(a.state), slices.Clone(a.ticks), copyFlows(a.flows)
	return x
}

// all calls all functions.
func all(x input) []result {
	part, at, e := basin.Check(x.basin)
	return append(every(x.basin, x.asked), result{"Check", [2]int{part, at}, e})
}

// rightInput returns arguments without errors.
func rightInput(r *rand.Rand) input {
	x := input{basin: anyBasin(r)}
	x.asked = asked{level: anyLimit(r, x.basin), limit: anyLimit(r, x.basin), state: anyState(r, x.basin), tick: anyTick(r), ticks: anyTicks(r)}
	x.asked.volume = x.asked.state.Volume
	for range r.Intn(5) {
		f := api.BsFlows{River: r.Intn(90), Over: r.Intn(90), Leak: r.Intn(90) - 45, Out: r.Intn(90)}
		for range x.basin.Polders {
			f.Taken = append(f.Taken, r.Intn(90))
		}
		x.asked.flows = append(x.asked.flows, f)
	}
	return x
}

// odd returns a number that is right, at a limit or beyond it, or far beyond.
func odd(r *rand.Rand) int {
	switch r.Intn(8) {
	case 0:
		return wild()[r.Intn(len(wild()))]
	case 1:
		return ints(-20001, -20000, -1, 0, 1, 2, 10000, 10001, 20000, 20001, 10000000, 10000001, 1000000000, 1000000001)[r.Intn(14)]
	}
	return r.Intn(60)
}

// numbersOf returns where the numbers of arguments are.
func numbersOf(x *input) []*int {
	a, b := &x.asked, &x.basin
	l := []*int{&a.volume, &a.level, &a.limit, &a.state.Volume, &a.tick.Outer, &a.tick.River, &a.tick.Out, &b.Leak, &b.Crest, &b.Over}
	for i := range a.state.Filled {
		l = append(l, &a.state.Filled[i])
	}
	for i := range a.ticks {
		l = append(l, &a.ticks[i].Outer, &a.ticks[i].River, &a.ticks[i].Out)
	}
	for i := range a.flows {
		l = append(l, &a.flows[i].River, &a.flows[i].Over, &a.flows[i].Leak, &a.flows[i].Out)
	}
	for i := range b.Rows {
		l = append(l, &b.Rows[i].Level, &b.Rows[i].Volume)
	}
	for i := range b.Polders {
		l = append(l, &b.Polders[i].Sill, &b.Polders[i].Take, &b.Polders[i].Room)
	}
	return l
}

// oddInput returns arguments of which some are not right.
func oddInput(r *rand.Rand) input {
	x := rightInput(r)
	numbers := numbersOf(&x)
	for range 1 + r.Intn(3) {
		*numbers[r.Intn(len(numbers))] = odd(r)
	}
	if r.Intn(8) == 0 {
		x.asked.state.Filled = make([]int, r.Intn(8))
		x.asked.flows = append(x.asked.flows, api.BsFlows{Taken: make([]int, r.Intn(8))})
	}
	if r.Intn(8) == 0 {
		x.basin.Rows = make([]api.BsRow, r.Intn(15))
	}
	if r.Intn(8) == 0 {
		x.basin.Polders = make([]api.BsPolder, r.Intn(8))
	}
	return x
}

// P4.14: any arguments are accepted, and not modified; the same ones have the same results, and these are new memory.
func TestP4_14Any(t *testing.T) {
	r := rand.New(rand.NewSource(414))
	all(input{})
	right, wrong := 0, 0
	for i := range 3000 {
		x := oddInput(r)
		if i%2 == 0 {
			x = rightInput(r)
		}
		before := copyInput(x)
		first := all(x)
		if !reflect.DeepEqual(x, before) {
			t.Fatalf("%+v was modified", before)
		}
		second, kept := all(x), all(copyInput(x))
		for j := range first {
			a, b, c := first[j], second[j], kept[j]
			if !reflect.DeepEqual(a, b) {
				t.Fatalf("%+v: %v, then %v", before, a, b)
			}
			switch {
			case a.e == api.OK:
				right++
			case a.name == "Check": // it tells where the error is
			case !isZero(a):
				t.Fatalf("%+v: %v", before, a)
			default:
				wrong++
			}
			l := slicesOf(reflect.ValueOf(a.value))
			slices.Sort(l)
			if len(slices.Compact(slices.Clone(l))) != len(l) {
				t.Fatalf("%+v: two lists of %v share memory", before, a)
			}
			overwrite(reflect.ValueOf(a.value))
			if !reflect.DeepEqual(x, before) || !reflect.DeepEqual(b, c) {
				t.Fatalf("%+v: %s is not new memory", before, a.name)
			}
		}
	}
	if right < 15000 || wrong < 5000 {
		t.Errorf("%d results without an error, %d with one: too few", right, wrong)
	}
}

// P1, P4.14: a basin at all of its limits.
func TestP4_14Full(t *testing.T) {
	b := api.BsBasin{Leak: 10000, Crest: -20000, Over: 10000}
	for i := range 12 {
		b.Rows = append(b.Rows, api.BsRow{Level: i*3000 - 20000, Volume: i * 30000000})
	}
	for i := range 6 {
		b.Polders = append(b.Polders, api.BsPolder{Name: label(i), Sill: -20000, Take: 10000, Room: 1000000000})
	}
	need(t, b)
	empty := state(0, make([]int, 6)...)
	l := slices.Repeat([]api.BsTick{tick(20000, 10000000, 10000000)}, 300)
	want, wantE := runOf(b, empty, l)
	states, flows, e := basin.Run(b, empty, l)
	if !same(ran{states, flows}, want) || e != wantE {
		t.Errorf("Run: %d states, %d; not %d, %d", len(states), e, len(want.States), wantE)
	}
	l = slices.Repeat([]api.BsTick{tick(-20000, 10000000, 0)}, 300)
	n, e := basin.Spare(b, empty, l, 20000)
	gives(t, "Spare", n, e, 0, api.OK)
	n, e = basin.Need(b, empty, l, -20000)
	gives(t, "Need", n, e, 0, api.OK) // all of it leaks out again
	b.Leak = 0
	n, e = basin.Need(b, empty, l, -20000)
	gives(t, "Need", n, e, 0, api.OK) // it runs into the polders
	b.Polders = nil
	n, e = basin.Need(b, state(0), l[:100], -20000)
	gives(t, "Need", n, e, 10000000, api.OK)
	n, e = basin.Need(b, state(0), l[:101], -20000)
	gives(t, "Need", n, e, 0, api.ErrLong) // without it there would be more than there can be
}
