package closure_test

import (
	"fmt"
	"math"
	"math/rand"
	"reflect"
	"slices"
	"testing"

	"barrage/api"
	"barrage/closure"
)

// sp returns a span.
func sp(lo, hi int) api.Span { return api.Span{Lo: lo, Hi: hi} }

// whole returns spans of one level each.
func whole(l ...int) []api.Span {
	var out []api.Span
	for _, x := range l {
		out = append(out, sp(x, x))
	}
	return out
}

// ints returns a list of numbers.
func ints(l ...int) []int { return l }

// same reports whether two results are equal; a nil list and an empty one are, wherever they are in them.
func same(a, b any) bool { return fmt.Sprint(a) == fmt.Sprint(b) }

// wild are numbers far beyond all limits, and some at them.
func wild() []int {
	return []int{math.MinInt, math.MinInt + 1, math.MinInt32, -1, math.MaxInt32, math.MaxInt - 1, math.MaxInt}
}

// rows returns rows of a basin, each by its level and its volume.
func rows(l ...int) []api.BsRow {
	var out []api.BsRow
	for i := 0; i < len(l); i += 2 {
		out = append(out, api.BsRow{Level: l[i], Volume: l[i+1]})
	}
	return out
}

// series returns a history.
func series(from int, l ...int) api.Series { return api.Series{From: from, Values: l} }

// histories returns histories from the same tick on.
func histories(from int, l ...[]int) []api.Series {
	var out []api.Series
	for _, x := range l {
		out = append(out, series(from, x...))
	}
	return out
}

// plan returns a plan.
func plan(first, last int) api.ClPlan { return api.ClPlan{Close: first, Open: last} }

// unclosed returns the plan not to close.
func unclosed() api.ClPlan { return plan(-1, -1) }

// rules returns rules.
func rules(count, early int) api.ClRules { return api.ClRules{Count: count, Early: early} }

// peaks returns peaks, each by its tick and its level.
func peaks(l ...int) []api.ClPeak {
	var out []api.ClPeak
	for i := 0; i < len(l); i += 2 {
		out = append(out, api.ClPeak{At: l[i], Level: l[i+1]})
	}
	return out
}

// witnesses returns witnesses, each by its history and its tick.
func witnesses(l ...int) []api.ClWitness {
	var out []api.ClWitness
	for i := 0; i < len(l); i += 2 {
		out = append(out, api.ClWitness{History: l[i], At: l[i+1]})
	}
	return out
}

// decision returns a decision.
func decision(p api.ClPlan, tops []api.ClPeak, later []api.ClWitness) api.ClDecision {
	return api.ClDecision{Plan: p, Peaks: tops, Later: later}
}

// estuary returns the task T of the chapter's examples.
func estuary() api.ClTask {
	return api.ClTask{
		Basin: api.BsBasin{
			Rows: rows(-1000, 0, 0, 1000000, 2000, 5000000),
			Leak: 100, Crest: 3000, Over: 500,
		},
		Histories: histories(10, ints(0, 500, 1500, 2500, 1500, 500), ints(0, 0, 0, 0, 0, 0)),
		River:     slices.Repeat(ints(60000), 6),
		Limit:     800, Delay: 1,
	}
}

// law returns the rules R of the chapter's examples.
func law() api.ClRules { return rules(1, 3) }

// tub returns a task with a basin of 2 m3 for each mm from the level 0 on, into which nothing flows by itself, a limit of 100, and no delay.
func tub(from int, l ...[]int) api.ClTask {
	return api.ClTask{
		Basin:     api.BsBasin{Rows: rows(0, 0, 1000, 2000)},
		Histories: histories(from, l...),
		River:     make([]int, len(l[0])),
		Limit:     100,
	}
}

// label returns the name of the polder with an index.
func label(i int) string { return "n" + string(rune('a'+i)) }

// from returns a number from lo to hi, often one of both.
func from(r *rand.Rand, lo, hi int) int {
	switch r.Intn(6) {
	case 0:
		return lo
	case 1:
		return hi
	}
	return lo + r.Intn(hi-lo+1)
}

// anyBasin returns a basin without errors, of so little water that all that flows makes a difference.
func anyBasin(r *rand.Rand) api.BsBasin {
	var b api.BsBasin
	row := api.BsRow{Level: from(r, -40, 0), Volume: from(r, 0, 50)}
	rate := 1000 // what the basin is wide enough for
	for range from(r, 2, 5) {
		b.Rows = append(b.Rows, row)
		high, wide := from(r, 1, 40), from(r, 1, 900)
		rate = min(rate, wide/high)
		row.Level += high
		row.Volume += wide
	}
	b.Leak, b.Crest, b.Over = from(r, 0, min(rate, 1+r.Intn(6))), from(r, 30, 150), from(r, 0, 9)
	for i := range r.Intn(3) {
		b.Polders = append(b.Polders, api.BsPolder{Name: label(i), Sill: b.Rows[0].Level + from(r, 0, 90), Take: from(r, 0, rate), Room: from(r, 0, 120)})
	}
	return b
}

// surge returns levels outside that rise to a peak, and fall again, or any levels.
func surge(r *rand.Rand, n int) []int {
	var out []int
	at, top, slope := n/2+r.Intn(n-n/2), from(r, 20, 110), from(r, 15, 60)
	odd := r.Intn(9) == 0
	for i := range n {
		x := max(top-slope*max(i-at, at-i), -50) + r.Intn(9)
		if odd {
			x = from(r, -60, 130)
		}
		out = append(out, x)
	}
	return out
}

// anyTask returns a task without errors.
func anyTask(r *rand.Rand) api.ClTask {
	t := api.ClTask{Basin: anyBasin(r), Out: from(r, 0, 30), Delay: r.Intn(3)}
	if r.Intn(10) == 0 {
		t.Delay = from(r, 0, 30)
	}
	for _, p := range t.Basin.Polders {
		t.Filled = append(t.Filled, from(r, 0, p.Room))
	}
	n := from(r, 1, 12)
	at := from(r, 0, api.MaxTick+1-n)
	for range from(r, 1, 4) {
		t.Histories = append(t.Histories, series(at, surge(r, n)...))
	}
	most := r.Intn(40)
	for range n {
		t.River = append(t.River, from(r, 0, most))
	}
	t.Limit = max(t.Basin.Rows[0].Level, from(r, 10, 100))
	return t
}

// fullTask returns a task without errors in whose basin there is no room for much more water.
func fullTask(r *rand.Rand) api.ClTask {
	t := anyTask(r)
	scale := from(r, 999000000, 1000000000)
	for i := range t.Basin.Rows {
		t.Basin.Rows[i].Volume = scale - 400*(len(t.Basin.Rows)-i)
		t.Basin.Rows[i].Level = t.Basin.Rows[0].Level + 20*i
	}
	t.Basin.Leak = from(r, 0, 20)
	for i := range t.Basin.Polders {
		t.Basin.Polders[i].Take = from(r, 0, 20)
	}
	for i := range t.River {
		t.River[i] = from(r, 0, 900)
	}
	t.Limit = t.Basin.Rows[0].Level + from(r, 0, 120)
	return t
}

// anyRules returns rules without errors.
func anyRules(r *rand.Rand) api.ClRules {
	return rules(1+r.Intn(1+r.Intn(3)), from(r, 0, 12))
}

// copyTask returns a task that shares no memory with t.
func copyTask(t api.ClTask) api.ClTask {
	t.Basin.Rows, t.Basin.Polders = slices.Clone(t.Basin.Rows), slices.Clone(t.Basin.Polders)
	t.Filled, t.River = slices.Clone(t.Filled), slices.Clone(t.River)
	t.Histories = slices.Clone(t.Histories)
	for i := range t.Histories {
		t.Histories[i].Values = slices.Clone(t.Histories[i].Values)
	}
	return t
}

// copyDecision returns a decision that shares no memory with d.
func copyDecision(d api.ClDecision) api.ClDecision {
	return decision(d.Plan, slices.Clone(d.Peaks), slices.Clone(d.Later))
}

// plansOf returns all plans of a task without errors.
func plansOf(t api.ClTask) []api.ClPlan {
	out := []api.ClPlan{unclosed()}
	first := t.Histories[0]
	for c := range first.Values {
		for o := c + t.Delay + 1; o <= len(first.Values); o++ {
			out = append(out, plan(first.From+c, first.From+o))
		}
	}
	return out
}

// ticksOf returns the ticks of a task.
func ticksOf(t api.ClTask) []int {
	var out []int
	for i := range t.Histories[0].Values {
		out = append(out, t.Histories[0].From+i)
	}
	return out
}

// result is what a function returned, and by which name.
type result struct {
	name  string
	value any
	e     api.Errno
}

// asked is arguments of the functions, beside the task.
type asked struct {
	from, history, tick int
	plan                api.ClPlan
	rules               api.ClRules
	decision            api.ClDecision
}

// best is what Best returns.
type best struct {
	Plan api.ClPlan
	Not  []int
}

// every calls all functions but Check.
func every(t api.ClTask, x asked) []result {
	var out []result
	put := func(name string, value any, e api.Errno) { out = append(out, result{name, value, e}) }
	n, e := closure.Quiet(t)
	put("Quiet", n, e)
	p, e := closure.Plan(t, x.from)
	put("Plan", p, e)
	l, e := closure.Inner(t, x.history, x.plan)
	put("Inner", l, e)
	h, e := closure.Holds(t, x.plan)
	put("Holds", h, e)
	n, e = closure.Last(t, x.history)
	put("Last", n, e)
	yes, e := closure.Allowed(t, x.rules, x.tick)
	put("Allowed", yes, e)
	d, e := closure.Decide(t, x.rules)
	put("Decide", d, e)
	n, e = closure.Accept(t, x.rules, x.decision)
	put("Accept", n, e)
	p, not, e := closure.Best(t, x.rules)
	put("Best", best{p, not}, e)
	return out
}

// isZero reports whether there is nothing in what a function returned.
func isZero(x result) bool {
	return slices.Contains([]string{"0", "false", "{0 0}", "[]", "{{0 0} []}", "{{0 0} [] []}"}, fmt.Sprint(x.value))
}

// need stops a test if a task that has to be right has an error.
func need(t *testing.T, x api.ClTask) {
	t.Helper()
	if part, at, e := closure.Check(x); part != 0 || at != 0 || e != api.OK {
		t.Fatalf("%+v: %d, %d, %d", x, part, at, e)
	}
}

// gives tests what a function with a number as its result returned.
func gives(t *testing.T, what any, n int, e api.Errno, want int, wantE api.Errno) {
	t.Helper()
	if n != want || e != wantE {
		t.Errorf("%v: %d, %d; not %d, %d", what, n, e, want, wantE)
	}
}

// quiet tests which is the quiet tick.
func quiet(t *testing.T, what any, x api.ClTask, want int) {
	t.Helper()
	need(t, x)
	n, e := closure.Quiet(x)
	gives(t, what, n, e, want, api.OK)
}

// planned tests what Plan returns.
func planned(t *testing.T, x api.ClTask, from int, want api.ClPlan, wantE api.Errno) {
	t.Helper()
	need(t, x)
	if p, e := closure.Plan(x, from); p != want || e != wantE {
		t.Errorf("from %d: %v, %d; not %v, %d", from, p, e, want, wantE)
	}
}

// inner tests what Inner returns.
func inner(t *testing.T, what any, x api.ClTask, history int, p api.ClPlan, want []api.Span, wantE api.Errno) {
	t.Helper()
	need(t, x)
	if l, e := closure.Inner(x, history, p); !slices.Equal(l, want) || e != wantE {
		t.Errorf("%v: history %d, %v: %v, %d; not %v, %d", what, history, p, l, e, want, wantE)
	}
}

// holds tests for which histories a plan holds.
func holds(t *testing.T, what any, x api.ClTask, p api.ClPlan, want ...bool) {
	t.Helper()
	need(t, x)
	if l, e := closure.Holds(x, p); !slices.Equal(l, want) || e != api.OK {
		t.Errorf("%v: %v: %v, %d; not %v", what, p, l, e, want)
	}
}

// last tests what Last returns.
func last(t *testing.T, what any, x api.ClTask, history, want int, wantE api.Errno) {
	t.Helper()
	need(t, x)
	n, e := closure.Last(x, history)
	gives(t, what, n, e, want, wantE)
}

// allowed tests at which ticks, of those from one before the task to one behind it, the rules allow to begin to close.
func allowed(t *testing.T, what any, x api.ClTask, r api.ClRules, want ...int) {
	t.Helper()
	need(t, x)
	var got []int
	first := x.Histories[0]
	for tick := first.From - 1; tick <= first.From+len(first.Values); tick++ {
		yes, e := closure.Allowed(x, r, tick)
		if e != api.OK {
			t.Errorf("%v: %d: %d", what, tick, e)
		}
		if yes {
			got = append(got, tick)
		}
	}
	if !slices.Equal(got, want) {
		t.Errorf("%v: %v; not %v", what, got, want)
	}
}

// decides tests what Decide returns, and that it is accepted.
func decides(t *testing.T, what any, x api.ClTask, r api.ClRules, want api.ClDecision) {
	t.Helper()
	need(t, x)
	d, e := closure.Decide(x, r)
	if !same(d, want) || e != api.OK {
		t.Errorf("%v: %v, %d; not %v", what, d, e, want)
	}
	accept(t, what, x, r, want, 0, api.OK)
}

// undecided tests that there is no decision.
func undecided(t *testing.T, what any, x api.ClTask, r api.ClRules) {
	t.Helper()
	need(t, x)
	if d, e := closure.Decide(x, r); !isZero(result{"Decide", d, e}) || e != api.ErrDown {
		t.Errorf("%v: %v, %d", what, d, e)
	}
}

// accept tests what Accept returns.
func accept(t *testing.T, what any, x api.ClTask, r api.ClRules, d api.ClDecision, at int, e api.Errno) {
	t.Helper()
	need(t, x)
	n, f := closure.Accept(x, r, d)
	gives(t, what, n, f, at, e)
}

// bests tests what Best returns.
func bests(t *testing.T, what any, x api.ClTask, r api.ClRules, want api.ClPlan, not []int, wantE api.Errno) {
	t.Helper()
	need(t, x)
	if p, l, e := closure.Best(x, r); p != want || !slices.Equal(l, not) || e != wantE {
		t.Errorf("%v: %v, %v, %d; not %v, %v, %d", what, p, l, e, want, not, wantE)
	}
}

// slicesOf returns the addresses of the first elements of the lists in what a function returned.
func slicesOf(v reflect.Value) []uintptr {
	var out []uintptr
	switch v.Kind() {
	case reflect.Slice:
		if v.Len() > 0 {
			out = append(out, v.Pointer())
		}
		for i := range v.Len() {
			out = append(out, slicesOf(v.Index(i))...)
		}
	case reflect.Struct:
		for i := range v.NumField() {
			out = append(out, slicesOf(v.Field(i))...)
		}
	}
	return out
}

// overwrite changes all memory that a value has.
func overwrite(v reflect.Value) {
	switch v.Kind() {
	case reflect.Slice:
		for i := range v.Len() {
			overwrite(v.Index(i))
		}
	case reflect.Struct:
		for i := range v.NumField() {
			overwrite(v.Field(i))
		}
	case reflect.Int:
		if v.CanSet() {
			v.SetInt(-7)
		}
	case reflect.Bool:
		if v.CanSet() {
			v.SetBool(!v.Bool())
		}
	}
}
