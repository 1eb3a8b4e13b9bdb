package ship_test

import (
	"fmt"
	"math"
	"math/rand"
	"reflect"
	"slices"
	"testing"

	"barrage/api"
	"barrage/ship"
)

// ints returns a list of numbers.
func ints(l ...int) []int { return l }

// same reports whether two results are equal; a nil list and an empty one are, wherever they are in them.
func same(a, b any) bool { return fmt.Sprint(a) == fmt.Sprint(b) }

// wild are numbers far beyond all limits, and some at them.
func wild() []int {
	return []int{math.MinInt, math.MinInt + 1, math.MinInt32, math.MaxInt32, math.MaxInt - 1, math.MaxInt}
}

// shut returns spans, each by its first tick and the one behind its last.
func shut(l ...int) []api.ShSpan {
	var out []api.ShSpan
	for i := 0; i < len(l); i += 2 {
		out = append(out, api.ShSpan{From: l[i], Until: l[i+1]})
	}
	return out
}

// moves returns a plan, each passage by its opening, its start and its anchorage.
func moves(l ...int) []api.ShPassage {
	var out []api.ShPassage
	for i := 0; i < len(l); i += 3 {
		out = append(out, api.ShPassage{Opening: l[i], Start: l[i+1], Anchor: l[i+2]})
	}
	return out
}

// faults returns what is wrong with a plan, each by the ship and the error.
func faults(l ...api.Errno) []api.ShFault {
	var out []api.ShFault
	for i := 0; i < len(l); i += 2 {
		out = append(out, api.ShFault{Ship: int(l[i]), Error: l[i+1]})
	}
	return out
}

// estuary returns the port P of the chapter's examples.
func estuary() api.ShPort {
	return api.ShPort{
		Openings: []api.ShOpening{{Name: "main", Width: 400, Sill: -10000, Shut: shut(20, 40)}},
		Anchors:  []api.ShAnchor{{Name: "road", Room: 300, Turn: 250}, {Name: "pool", Inside: true, Room: 200, Turn: 100}},
		Ships: []api.ShShip{
			{Name: "bulk", Length: 200, Beam: 300, Draught: 8000, Ready: 10, Pass: 4, Until: -1, Value: 50},
			{Name: "ferry", Inside: true, Length: 80, Beam: 150, Draught: 5000, Ready: 12, Pass: 2, Until: 18, Value: 30},
			{Name: "tanker", Length: 240, Beam: 380, Draught: 9000, Ready: 15, Pass: 5, Until: 30, Value: 80},
		},
		Levels: api.Series{Values: make([]int, 60)},
		Keel:   1000, Follow: 1, Gap: 3, Margin: 2,
	}
}

// boat returns a ship from outside, of 1 m, that nothing was promised, and that is worth 1.
func boat(name string, ready, pass int) api.ShShip {
	return api.ShShip{Name: name, Length: 1, Ready: ready, Pass: pass, Until: -1, Value: 1}
}

// inside returns a ship as one that comes from inside.
func inside(s api.ShShip) api.ShShip {
	s.Inside = true
	return s
}

// pond returns a port of one opening and an anchorage on each side, with levels from the tick 0 on, in which nothing hinders ships but each other.
func pond(l ...api.ShShip) api.ShPort {
	return api.ShPort{
		Openings: []api.ShOpening{{Name: "gap"}},
		Anchors:  []api.ShAnchor{{Name: "out", Room: 5000, Turn: 5000}, {Name: "in", Inside: true, Room: 5000, Turn: 5000}},
		Ships:    l, Levels: api.Series{Values: make([]int, 100)},
	}
}

// label returns the name of the thing with an index.
func label(i int) string { return "n" + string(rune('a'+i)) }

// from returns a number from lo to hi, often one of both.
func from(r *rand.Rand, lo, hi int) int {
	switch r.Intn(6) {
	case 0:
		return lo
	case 1:
		return hi
	}
	return lo + r.Intn(hi-lo+1)
}

// anyPort returns a port without errors whose ships are ready within few ticks, and hinder each other.
func anyPort(r *rand.Rand) api.ShPort {
	n := from(r, 1, 30)
	p := api.ShPort{
		Levels: api.Series{From: from(r, 0, api.MaxTick+1-n)},
		Keel:   from(r, 0, 3), Follow: from(r, 0, 3), Gap: from(r, 0, 5), Margin: from(r, 0, 4),
	}
	if r.Intn(3) == 0 {
		p.Levels.From = r.Intn(20)
	}
	for range n {
		p.Levels.Values = append(p.Levels.Values, from(r, 12-r.Intn(8), 20))
	}
	at := func(lo, hi int) int { return min(max(p.Levels.From+from(r, lo, hi), 0), api.MaxTick) }
	for i := range from(r, 1, 3) {
		o := api.ShOpening{Name: label(i), Width: from(r, 3, 9), Sill: from(r, -2, 4)}
		for range r.Intn(5) {
			first := at(-3, n+3)
			o.Shut = append(o.Shut, api.ShSpan{From: first, Until: min(first+r.Intn(6), api.MaxTick)})
		}
		p.Openings = append(p.Openings, o)
	}
	for i := range from(r, 0, 4) {
		p.Anchors = append(p.Anchors, api.ShAnchor{Name: label(i), Inside: r.Intn(2) == 0, Room: from(r, 0, 30), Turn: from(r, 0, 25)})
	}
	for i := range from(r, 0, 5) {
		s := api.ShShip{
			Name: label(i), Inside: r.Intn(2) == 0, Length: from(r, 1, 15), Beam: from(r, 1, 6), Draught: from(r, 5, 12),
			Ready: at(-8, n/2), Pass: from(r, 1, 5), Until: -1, Value: from(r, 0, 4),
		}
		if r.Intn(3) == 0 {
			s.Until = at(-3, n)
		}
		p.Ships = append(p.Ships, s)
	}
	return p
}

// wide returns a port without errors in which most ships can pass, and be held, and be turned back.
func wide(r *rand.Rand) api.ShPort {
	p := anyPort(r)
	for i := range p.Openings {
		p.Openings[i].Sill, p.Openings[i].Width = -20, 9
		p.Openings[i].Shut = p.Openings[i].Shut[:min(1, len(p.Openings[i].Shut))]
	}
	p.Anchors = []api.ShAnchor{{Name: "out", Room: from(r, 10, 60), Turn: 20}, {Name: "in", Inside: true, Room: from(r, 10, 60), Turn: 20}}
	return p
}

// anyPassage returns a passage of a ship that is well formed, whatever is wrong with it.
func anyPassage(r *rand.Rand, p api.ShPort, s api.ShShip) api.ShPassage {
	anchor := r.Intn(len(p.Anchors)+1) - 1
	start := min(max(from(r, s.Ready-2, s.Ready+12), 0), api.MaxTick)
	if r.Intn(5) == 0 || start > s.Ready && len(p.Anchors) == 0 {
		return api.ShPassage{Opening: -1, Start: -1, Anchor: anchor}
	}
	x := api.ShPassage{Opening: r.Intn(len(p.Openings)), Start: start, Anchor: -1}
	if start > s.Ready {
		x.Anchor = r.Intn(len(p.Anchors))
	}
	return x
}

// anyPlan returns a plan that is well formed: one by an order, or another one that is much like it, or any one.
func anyPlan(r *rand.Rand, p api.ShPort) []api.ShPassage {
	out, e := ship.Plan(p, r.Perm(len(p.Ships)))
	keep := r.Intn(4)
	if e != api.OK {
		out, keep = make([]api.ShPassage, len(p.Ships)), 0
	}
	for i, s := range p.Ships {
		if keep == 0 || keep < 3 && r.Intn(4) == 0 {
			out[i] = anyPassage(r, p, s)
		}
	}
	return out
}

// copyPort returns a port that shares no memory with p.
func copyPort(p api.ShPort) api.ShPort {
	p.Openings, p.Anchors, p.Ships = slices.Clone(p.Openings), slices.Clone(p.Anchors), slices.Clone(p.Ships)
	for i := range p.Openings {
		p.Openings[i].Shut = slices.Clone(p.Openings[i].Shut)
	}
	p.Levels.Values = slices.Clone(p.Levels.Values)
	return p
}

// result is what a function returned, and by which name.
type result struct {
	name  string
	value any
	e     api.Errno
}

// asked is arguments of the functions, beside the port.
type asked struct {
	ship, opening, tick int
	order               []int
	plan, after         []api.ShPassage
}

// worth is what Worth returns.
type worth struct{ Value, Held int }

// best is what Best returns.
type best struct {
	Order []int
	Plan  []api.ShPassage
}

// every calls all functions but Check.
func every(p api.ShPort, x asked) []result {
	why, e := ship.Fits(p, x.ship, x.opening, x.tick)
	out := []result{{"Fits", why, e}}
	plan, e := ship.Plan(p, x.order)
	out = append(out, result{"Plan", plan, e})
	order, plan, e := ship.Best(p)
	out = append(out, result{"Best", best{order, plan}, e})
	return append(out, withPlan(p, x)...)
}

// withPlan calls all functions with a plan.
func withPlan(p api.ShPort, x asked) []result {
	var out []result
	put := func(name string, value any, e api.Errno) { out = append(out, result{name, value, e}) }
	l, e := ship.Judge(p, x.plan)
	put("Judge", l, e)
	value, held, e := ship.Worth(p, x.plan)
	put("Worth", worth{value, held}, e)
	n, e := ship.In(p, x.plan, x.opening, x.tick)
	put("In", n, e)
	n, e = ship.Free(p, x.plan, x.opening, x.tick)
	put("Free", n, e)
	plan, e := ship.Replan(p, x.plan, x.tick)
	put("Replan", plan, e)
	order, e := ship.Turned(p, x.plan, x.after)
	put("Turned", order, e)
	return out
}

// isZero reports whether there is nothing in what a function returned.
func isZero(x result) bool {
	return slices.Contains([]string{"0", "[]", "{0 0}", "{[] []}"}, fmt.Sprint(x.value))
}

// need stops a test if a port that has to be right has an error.
func need(t *testing.T, p api.ShPort) {
	t.Helper()
	if part, at, e := ship.Check(p); part != 0 || at != 0 || e != api.OK {
		t.Fatalf("%+v: %d, %d, %d", p, part, at, e)
	}
}

// gives tests what a function with a number as its result returned.
func gives(t *testing.T, what any, n int, e api.Errno, want int, wantE api.Errno) {
	t.Helper()
	if n != want || e != wantE {
		t.Errorf("%v: %d, %d; not %d, %d", what, n, e, want, wantE)
	}
}

// fits tests what Fits returns.
func fits(t *testing.T, what any, p api.ShPort, index, opening, start int, why, wantE api.Errno) {
	t.Helper()
	need(t, p)
	n, e := ship.Fits(p, index, opening, start)
	gives(t, fmt.Sprintf("%v: %d through %d at %d", what, index, opening, start), int(n), e, int(why), wantE)
}

// judged tests what Judge returns, and that Worth tells whether there is a fault.
func judged(t *testing.T, what any, p api.ShPort, plan []api.ShPassage, want ...api.ShFault) {
	t.Helper()
	need(t, p)
	if l, e := ship.Judge(p, plan); !slices.Equal(l, want) || e != api.OK {
		t.Errorf("%v: %v: %v, %d; not %v", what, plan, l, e, want)
	}
	if value, held, e := ship.Worth(p, plan); (e == api.OK) != (len(want) == 0) || e != api.OK && (e != api.ErrDown || value != 0 || held != 0) {
		t.Errorf("%v: %v: %d, %d, %d", what, plan, value, held, e)
	}
}

// worths tests what Worth returns.
func worths(t *testing.T, what any, p api.ShPort, plan []api.ShPassage, value, held int) {
	t.Helper()
	need(t, p)
	if v, h, e := ship.Worth(p, plan); v != value || h != held || e != api.OK {
		t.Errorf("%v: %v: %d, %d, %d; not %d, %d", what, plan, v, h, e, value, held)
	}
}

// planned tests what Plan returns.
func planned(t *testing.T, what any, p api.ShPort, order []int, want []api.ShPassage, wantE api.Errno) {
	t.Helper()
	need(t, p)
	if l, e := ship.Plan(p, order); !slices.Equal(l, want) || e != wantE {
		t.Errorf("%v: by %v: %v, %d; not %v, %d", what, order, l, e, want, wantE)
	}
}

// bests tests what Best returns.
func bests(t *testing.T, what any, p api.ShPort, order []int, want []api.ShPassage, wantE api.Errno) {
	t.Helper()
	need(t, p)
	if o, l, e := ship.Best(p); !slices.Equal(o, order) || !slices.Equal(l, want) || e != wantE {
		t.Errorf("%v: %v, %v, %d; not %v, %v, %d", what, o, l, e, order, want, wantE)
	}
}

// in tests which ship is in an opening.
func in(t *testing.T, what any, p api.ShPort, plan []api.ShPassage, opening, tick, want int) {
	t.Helper()
	need(t, p)
	n, e := ship.In(p, plan, opening, tick)
	gives(t, fmt.Sprintf("%v: %v: in %d at %d", what, plan, opening, tick), n, e, want, api.OK)
}

// free tests from when on an opening may be shut.
func free(t *testing.T, what any, p api.ShPort, plan []api.ShPassage, opening, tick, want int) {
	t.Helper()
	need(t, p)
	n, e := ship.Free(p, plan, opening, tick)
	gives(t, fmt.Sprintf("%v: %v: %d from %d on", what, plan, opening, tick), n, e, want, api.OK)
}

// replanned tests what Replan returns.
func replanned(t *testing.T, what any, p api.ShPort, plan []api.ShPassage, now int, want []api.ShPassage, wantE api.Errno) {
	t.Helper()
	need(t, p)
	if l, e := ship.Replan(p, plan, now); !slices.Equal(l, want) || e != wantE {
		t.Errorf("%v: %v at %d: %v, %d; not %v, %d", what, plan, now, l, e, want, wantE)
	}
}

// turned tests what Turned returns.
func turned(t *testing.T, what any, p api.ShPort, before, after []api.ShPassage, want ...int) {
	t.Helper()
	need(t, p)
	if l, e := ship.Turned(p, before, after); !slices.Equal(l, want) || e != api.OK {
		t.Errorf("%v: %v, %v: %v, %d; not %v", what, before, after, l, e, want)
	}
}

// often tests that something that is counted was there often enough.
func often(t *testing.T, what any, n, least int) {
	t.Helper()
	if n < least {
		t.Errorf("%v: only %d times", what, n)
	}
}

// slicesOf returns the addresses of the first elements of the lists in what a function returned.
func slicesOf(v reflect.Value) []uintptr {
	var out []uintptr
	switch v.Kind() {
	case reflect.Slice:
		if v.Len() > 0 {
			out = append(out, v.Pointer())
		}
		for i := range v.Len() {
			out = append(out, slicesOf(v.Index(i))...)
		}
	case reflect.Struct:
		for i := range v.NumField() {
			out = append(out, slicesOf(v.Field(i))...)
		}
	}
	return out
}

// overwrite changes all memory that a value has.
func overwrite(v reflect.Value) {
	switch v.Kind() {
	case reflect.Slice:
		for i := range v.Len() {
			overwrite(v.Index(i))
		}
	case reflect.Struct:
		for i := range v.NumField() {
			overwrite(v.Field(i))
		}
	case reflect.Int:
		if v.CanSet() {
			v.SetInt(-7)
		}
	}
}
