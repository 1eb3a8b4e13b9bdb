package basin_test

import (
	"fmt"
	"math"
	"math/rand"
	"reflect"
	"slices"
	"testing"

	"barrage/api"
	"barrage/basin"
)

// sp returns a span.
func sp(lo, hi int) api.Span { return api.Span{Lo: lo, Hi: hi} }

// ints returns a list of numbers.
func ints(l ...int) []int { return l }

// same reports whether two results are equal; a nil list and an empty one are, wherever they are in them.
func same(a, b any) bool { return fmt.Sprint(a) == fmt.Sprint(b) }

// wild are numbers far beyond all limits, and some at them.
func wild() []int {
	return []int{math.MinInt, math.MinInt + 1, math.MinInt32, -1, math.MaxInt32, math.MaxInt - 1, math.MaxInt}
}

// label returns the name of the polder with an index.
func label(i int) string { return "n" + string(rune('a'+i)) }

// rows returns rows, each by its level and its volume.
func rows(l ...int) []api.BsRow {
	var out []api.BsRow
	for i := 0; i < len(l); i += 2 {
		out = append(out, api.BsRow{Level: l[i], Volume: l[i+1]})
	}
	return out
}

// estuary returns the basin B of the chapter's examples.
func estuary() api.BsBasin {
	return api.BsBasin{
		Rows: rows(-1000, 0, 0, 1000000, 2000, 5000000),
		Leak: 100, Crest: 3000, Over: 500,
		Polders: []api.BsPolder{{Name: "low", Sill: 200, Take: 300, Room: 50000}, {Name: "high", Sill: 1000, Take: 200, Room: 400000}},
	}
}

// still returns the state S of the chapter's examples.
func still() api.BsState { return state(1000000, 0, 0) }

// storm returns the tick X of the chapter's examples.
func storm() api.BsTick { return api.BsTick{Outer: 2500, River: 60000} }

// storms returns so many ticks X.
func storms(n int) []api.BsTick { return slices.Repeat([]api.BsTick{storm()}, n) }

// tub returns a basin of 2 m3 for each mm from the level 0 on, without anything that flows by itself.
func tub(polders ...api.BsPolder) api.BsBasin {
	return api.BsBasin{Rows: rows(0, 0, 1000, 2000), Polders: polders}
}

// tick returns a tick.
func tick(outer, river, out int) api.BsTick { return api.BsTick{Outer: outer, River: river, Out: out} }

// state returns a state.
func state(volume int, filled ...int) api.BsState { return api.BsState{Volume: volume, Filled: filled} }

// from returns a number from lo to hi, often one of both.
func from(r *rand.Rand, lo, hi int) int {
	switch r.Intn(6) {
	case 0:
		return lo
	case 1:
		return hi
	}
	return lo + r.Intn(hi-lo+1)
}

// anyBasin returns a basin without errors, of so little water that all that flows makes a difference.
func anyBasin(r *rand.Rand) api.BsBasin {
	var b api.BsBasin
	row := api.BsRow{Level: from(r, -80, 20), Volume: from(r, 0, 50)}
	rate := 1000 // what the basin is wide enough for
	for range from(r, 2, 5) {
		b.Rows = append(b.Rows, row)
		high, wide := from(r, 1, 40), from(r, 1, 400)
		rate = min(rate, wide/high)
		row.Level += high
		row.Volume += wide
	}
	b.Leak, b.Crest, b.Over = from(r, 0, rate), from(r, -50, 150), from(r, 0, 9)
	for i := range from(r, 0, 4) {
		sill := b.Rows[0].Level + from(r, 0, 90)
		b.Polders = append(b.Polders, api.BsPolder{Name: label(i), Sill: sill, Take: from(r, 0, rate), Room: from(r, 0, 120)})
	}
	return b
}

// hugeBasin returns a basin without errors whose numbers are anywhere in their ranges.
func hugeBasin(r *rand.Rand) api.BsBasin {
	n := from(r, 2, 5)
	levels, volumes := r.Perm(40001)[:n], r.Perm(1000)[:n]
	slices.Sort(levels)
	slices.Sort(volumes)
	b := api.BsBasin{Crest: from(r, -20000, 20000), Over: from(r, 0, 10000)}
	rate := 10000
	for i := range n {
		b.Rows = append(b.Rows, api.BsRow{Level: levels[i] - 20000, Volume: min(volumes[i]*1001001, 1000000000)})
		if i > 0 {
			rate = min(rate, (b.Rows[i].Volume-b.Rows[i-1].Volume)/(levels[i]-levels[i-1]))
		}
	}
	b.Leak = from(r, 0, rate)
	for i := range from(r, 0, 3) {
		b.Polders = append(b.Polders, api.BsPolder{Name: label(i), Sill: from(r, b.Rows[0].Level, 20000), Take: from(r, 0, rate), Room: from(r, 0, 1000000000)})
	}
	return b
}

// hugeTick returns a tick without errors whose numbers are anywhere in their ranges.
func hugeTick(r *rand.Rand) api.BsTick {
	return tick(from(r, -20000, 20000), from(r, 0, 10000000), from(r, 0, 10000000))
}

// anyState returns a state of a basin.
func anyState(r *rand.Rand, b api.BsBasin) api.BsState {
	least := b.Rows[0].Volume
	s := api.BsState{Volume: from(r, least, least+900)}
	for _, p := range b.Polders {
		s.Filled = append(s.Filled, from(r, 0, p.Room))
	}
	return s
}

// anyTick returns a tick without errors.
func anyTick(r *rand.Rand) api.BsTick {
	return api.BsTick{Outer: from(r, -120, 200), River: from(r, 0, 90), Out: from(r, 0, 90)}
}

// anyTicks returns some ticks.
func anyTicks(r *rand.Rand) []api.BsTick {
	var l []api.BsTick
	for range r.Intn(9) {
		l = append(l, anyTick(r))
	}
	return l
}

// anyLimit returns a limit that is near to levels of a basin.
func anyLimit(r *rand.Rand, b api.BsBasin) int { return b.Rows[0].Level + from(r, 0, 120) }

// copyBasin returns a basin that shares no memory with b.
func copyBasin(b api.BsBasin) api.BsBasin {
	b.Rows, b.Polders = slices.Clone(b.Rows), slices.Clone(b.Polders)
	return b
}

// copyState returns a state that shares no memory with s.
func copyState(s api.BsState) api.BsState { return state(s.Volume, slices.Clone(s.Filled)...) }

// copyFlows returns flows that share no memory with l.
func copyFlows(l []api.BsFlows) []api.BsFlows {
	l = slices.Clone(l)
	for i := range l {
		l[i].Taken = slices.Clone(l[i].Taken)
	}
	return l
}

// result is what a function returned, and by which name.
type result struct {
	name  string
	value any
	e     api.Errno
}

// asked is arguments of the functions, beside the basin.
type asked struct {
	volume, level, limit int
	state                api.BsState
	tick                 api.BsTick
	ticks                []api.BsTick
	flows                []api.BsFlows
}

// stepped is what Step returns.
type stepped struct {
	State api.BsState
	Flows api.BsFlows
}

// ran is what Run returns.
type ran struct {
	States []api.BsState
	Flows  []api.BsFlows
}

// every calls all functions but Check.
func every(b api.BsBasin, x asked) []result {
	var out []result
	put := func(name string, value any, e api.Errno) { out = append(out, result{name, value, e}) }
	level, e := basin.Level(b, x.volume)
	put("Level", level, e)
	volume, e := basin.Volume(b, x.level)
	put("Volume", volume, e)
	put("CheckState", 0, basin.CheckState(b, x.state))
	s, f, e := basin.Step(b, x.state, x.tick)
	put("Step", stepped{s, f}, e)
	states, flows, e := basin.Run(b, x.state, x.ticks)
	put("Run", ran{states, flows}, e)
	n, e := basin.Stay(b, x.state, x.ticks, x.limit)
	put("Stay", n, e)
	floods, e := basin.Floods(b, x.state, x.ticks)
	put("Floods", floods, e)
	n, e = basin.Need(b, x.state, x.ticks, x.limit)
	put("Need", n, e)
	n, e = basin.Spare(b, x.state, x.ticks, x.limit)
	put("Spare", n, e)
	total, e := basin.Total(b, x.flows)
	put("Total", total, e)
	return out
}

// isZero reports whether there is nothing in what a function returned.
func isZero(x result) bool {
	return slices.Contains([]string{"0", "{0 0}", "[]", "{[] []}", "{{0 []} {0 0 0 0 []}}", "{0 0 0 0 []}"}, fmt.Sprint(x.value))
}

// badAsk is arguments of which none is right.
func badAsk() asked {
	return asked{
		volume: -1, level: -20001, limit: -20001, state: state(-1, make([]int, 9)...), tick: api.BsTick{Outer: 20001, River: -1, Out: -1},
		ticks: make([]api.BsTick, 301), flows: make([]api.BsFlows, 301),
	}
}

// need stops a test if a basin that has to be right has an error.
func need(t *testing.T, b api.BsBasin) {
	t.Helper()
	if part, at, e := basin.Check(b); part != 0 || at != 0 || e != api.OK {
		t.Fatalf("%+v: %d, %d, %d", b, part, at, e)
	}
}

// gives tests what a function with a number as its result returned.
func gives(t *testing.T, what any, n int, e api.Errno, want int, wantE api.Errno) {
	t.Helper()
	if n != want || e != wantE {
		t.Errorf("%v: %d, %d; not %d, %d", what, n, e, want, wantE)
	}
}

// step tests which state there is after a tick, and what flowed.
func step(t *testing.T, what any, b api.BsBasin, s api.BsState, x api.BsTick, after api.BsState, f api.BsFlows) {
	t.Helper()
	need(t, b)
	a, g, e := basin.Step(b, s, x)
	if !same(a, after) || !same(g, f) || e != api.OK {
		t.Errorf("%v: %v, %v: %v, %v, %d; not %v, %v", what, s, x, a, g, e, after, f)
	}
}

// slicesOf returns the addresses of the first elements of the lists in what a function returned.
func slicesOf(v reflect.Value) []uintptr {
	var out []uintptr
	switch v.Kind() {
	case reflect.Slice:
		if v.Len() > 0 {
			out = append(out, v.Pointer())
		}
		for i := range v.Len() {
			out = append(out, slicesOf(v.Index(i))...)
		}
	case reflect.Struct:
		for i := range v.NumField() {
			out = append(out, slicesOf(v.Field(i))...)
		}
	}
	return out
}

// overwrite changes all memory that a value has.
func overwrite(v reflect.Value) {
	switch v.Kind() {
	case reflect.Slice:
		for i := range v.Len() {
			overwrite(v.Index(i))
		}
	case reflect.Struct:
		for i := range v.NumField() {
			overwrite(v.Field(i))
		}
	case reflect.Int:
		if v.CanSet() {
			v.SetInt(-7)
		}
	}
}
