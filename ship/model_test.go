package ship_test

import (
	"cmp"
	"math/rand"
	"slices"
	"strconv"
	"testing"

	"barrage/api"
)

// What is here follows the definitions of the chapter alone, tick by tick, and knows nothing of how the package does it.

// placing is the index of a ship, and its passage.
type placing struct {
	ship int
	api.ShPassage
}

// ticks returns all ticks from one on and before another one.
func ticks(from, until int) []int {
	var out []int
	for t := from; t < until; t++ {
		out = append(out, t)
	}
	return out
}

// isShutAt reports whether an opening is shut at a tick.
func isShutAt(o api.ShOpening, tick int) bool {
	return slices.ContainsFunc(o.Shut, func(s api.ShSpan) bool { return s.From <= tick && tick < s.Until })
}

// isInAt reports whether a ship is in an opening at a tick.
func isInAt(p api.ShPort, a placing, opening, tick int) bool {
	return a.Opening == opening && slices.Contains(ticks(a.Start, a.Start+p.Ships[a.ship].Pass), tick)
}

// isHeldAt reports whether a ship is held at an anchorage at a tick.
func isHeldAt(p api.ShPort, a placing, anchor, tick int) bool {
	ready := p.Ships[a.ship].Ready
	return a.Opening != -1 && a.Start > ready && a.Anchor == anchor && slices.Contains(ticks(ready, a.Start), tick)
}

// aloneOf returns what is wrong with a passage through an opening, alone.
func aloneOf(p api.ShPort, a placing) api.Errno {
	s, o := p.Ships[a.ship], p.Openings[a.Opening]
	if a.Start < s.Ready {
		return api.ShErrEarly
	}
	if s.Until != -1 && a.Start > s.Until {
		return api.ShErrLate
	}
	if s.Beam > o.Width {
		return api.ShErrWide
	}
	for _, t := range ticks(a.Start, a.Start+s.Pass) {
		if at := slices.Index(ticks(p.Levels.From, p.Levels.From+len(p.Levels.Values)), t); at < 0 || p.Levels.Values[at]-o.Sill < s.Draught+p.Keel {
			return api.ShErrDeep
		}
	}
	for _, t := range ticks(a.Start, a.Start+s.Pass+p.Margin) {
		if isShutAt(o, t) {
			return api.ShErrShut
		}
	}
	return api.OK
}

// meet reports whether two passages meet.
func meet(p api.ShPort, a, b placing) bool {
	if a.Opening == -1 || a.Opening != b.Opening {
		return false
	}
	if a.Start > b.Start {
		a, b = b, a
	}
	between := p.Gap
	if p.Ships[a.ship].Inside == p.Ships[b.ship].Inside {
		between = p.Follow
	}
	return b.Start < a.Start+p.Ships[a.ship].Pass+between
}

// noRoom reports whether a ship that is held has no room, with those before it.
func noRoom(p api.ShPort, before []placing, a placing) bool {
	s := p.Ships[a.ship]
	if a.Start <= s.Ready {
		return false
	}
	if p.Anchors[a.Anchor].Inside != s.Inside {
		return true
	}
	for _, t := range ticks(s.Ready, a.Start) {
		sum := 0
		for _, b := range append(slices.Clone(before), a) {
			if isHeldAt(p, b, a.Anchor, t) {
				sum += p.Ships[b.ship].Length
			}
		}
		if sum > p.Anchors[a.Anchor].Room {
			return true
		}
	}
	return false
}

// faultsOf returns what is wrong with a passage, after those that were placed before it.
func faultsOf(p api.ShPort, before []placing, a placing) []api.Errno {
	var out []api.Errno
	s := p.Ships[a.ship]
	if a.Opening == -1 {
		if a.Anchor == -1 || p.Anchors[a.Anchor].Inside != s.Inside || s.Length > p.Anchors[a.Anchor].Turn {
			out = append(out, api.ShErrTurn)
		}
		return out
	}
	if e := aloneOf(p, a); e != api.OK {
		out = append(out, e)
	}
	if slices.ContainsFunc(before, func(b placing) bool { return meet(p, b, a) }) {
		out = append(out, api.ShErrMeet)
	}
	if noRoom(p, before, a) {
		out = append(out, api.ShErrRoom)
	}
	return out
}

// placings returns the placings of a plan.
func placings(plan []api.ShPassage) []placing {
	var out []placing
	for i, x := range plan {
		out = append(out, placing{i, x})
	}
	return out
}

// judgedOf returns what Judge has to return.
func judgedOf(p api.ShPort, plan []api.ShPassage) []api.ShFault {
	var out []api.ShFault
	l := placings(plan)
	for i, a := range l {
		for _, e := range faultsOf(p, l[:i], a) {
			out = append(out, api.ShFault{Ship: i, Error: e})
		}
	}
	return out
}

// worthOf returns what a plan is worth, and for how many ticks it holds ships.
func worthOf(p api.ShPort, plan []api.ShPassage) worth {
	var w worth
	for i, x := range plan {
		if x.Opening != -1 {
			w.Value += p.Ships[i].Value
			w.Held += x.Start - p.Ships[i].Ready
		}
	}
	return w
}

// passages returns all passages through openings of a ship that are well formed and begin after a tick, but for some that begin too early or too late.
func passages(p api.ShPort, index, after int) []placing {
	var out []placing
	ready := p.Ships[index].Ready
	for o := range p.Openings {
		for _, t := range ticks(max(ready, after+1), p.Levels.From+len(p.Levels.Values)+1) {
			for a := -1; a < len(p.Anchors); a++ {
				if (a == -1) == (t <= ready) && t <= api.MaxTick {
					out = append(out, placing{index, api.ShPassage{Opening: o, Start: t, Anchor: a}})
				}
			}
		}
	}
	slices.SortFunc(out, func(a, b placing) int {
		return cmp.Or(a.Start-b.Start, a.Opening-b.Opening, a.Anchor-b.Anchor)
	})
	return out
}

// placedOf places ships in an order after others, and returns the plan of all of them.
func placedOf(p api.ShPort, before []placing, order []int, after int) ([]api.ShPassage, api.Errno) {
	out := make([]api.ShPassage, len(p.Ships))
	for _, a := range before {
		out[a.ship] = a.ShPassage
	}
	for _, i := range order {
		l := passages(p, i, after)
		for a := range p.Anchors {
			l = append(l, placing{i, api.ShPassage{Opening: -1, Start: -1, Anchor: a}})
		}
		at := slices.IndexFunc(l, func(a placing) bool { return len(faultsOf(p, before, a)) == 0 })
		if at < 0 {
			return nil, api.ErrDown
		}
		before = append(slices.Clone(before), l[at])
		out[i] = l[at].ShPassage
	}
	return out, api.OK
}

// ordersOf returns all orders of n ships, the first one first.
func ordersOf(n int) [][]int {
	out := [][]int{nil}
	for range n {
		var longer [][]int
		for _, l := range out {
			for i := range n {
				if !slices.Contains(l, i) {
					longer = append(longer, append(slices.Clone(l), i))
				}
			}
		}
		out = longer
	}
	return out
}

// bestOf returns what Best has to return.
func bestOf(p api.ShPort) (best, api.Errno) {
	var out best
	var most worth
	e := api.ErrDown
	for _, order := range ordersOf(len(p.Ships)) {
		l, f := placedOf(p, nil, order, -1)
		if f != api.OK {
			continue
		}
		w := worthOf(p, l)
		if e != api.OK || w.Value > most.Value || w.Value == most.Value && w.Held < most.Held {
			out, most, e = best{order, l}, w, api.OK
		}
	}
	return out, e
}

// inOf returns what In has to return.
func inOf(p api.ShPort, plan []api.ShPassage, opening, tick int) int {
	return slices.IndexFunc(placings(plan), func(a placing) bool { return isInAt(p, a, opening, tick) })
}

// isFreeOf reports whether a tick is for no passage through an opening.
func isFreeOf(p api.ShPort, plan []api.ShPassage, opening, tick int) bool {
	return !slices.ContainsFunc(placings(plan), func(a placing) bool {
		return a.Opening == opening && slices.Contains(ticks(a.Start, a.Start+p.Ships[a.ship].Pass+p.Margin), tick)
	})
}

// freeOf returns what Free has to return.
func freeOf(p api.ShPort, plan []api.ShPassage, opening, tick int) int {
	for !isFreeOf(p, plan, opening, tick) {
		tick++
	}
	return tick
}

// replanOf returns what Replan has to return.
func replanOf(p api.ShPort, plan []api.ShPassage, now int) ([]api.ShPassage, api.Errno) {
	var begun []placing
	var others []int
	for _, a := range placings(plan) {
		if a.Opening != -1 && a.Start <= now {
			begun = append(begun, a)
		} else {
			others = append(others, a.ship)
		}
	}
	return placedOf(p, begun, others, now)
}

// turnedOf returns what Turned has to return.
func turnedOf(before, after []api.ShPassage) []int {
	var out []int
	for i := len(before) - 1; i >= 0; i-- {
		if before[i].Opening != -1 && after[i].Opening == -1 {
			out = append(out, i)
		}
	}
	return out
}

// portOf returns a port without errors, of one of several kinds.
func portOf(r *rand.Rand, i int) api.ShPort {
	if i%3 == 0 {
		return anyPort(r)
	}
	return wide(r)
}

// P6.2: Fits does what the definitions say.
func TestP6_2Model(t *testing.T) {
	r := rand.New(rand.NewSource(602))
	count := map[api.Errno]int{}
	for i := range 800 {
		p := portOf(r, i)
		for s := range p.Ships {
			for o := range p.Openings {
				for start := max(p.Levels.From-10, 0); start <= min(p.Levels.From+len(p.Levels.Values)+1, api.MaxTick); start++ {
					why := aloneOf(p, placing{s, api.ShPassage{Opening: o, Start: start}})
					fits(t, p, p, s, o, start, why, api.OK)
					count[why]++
				}
			}
		}
		if t.Failed() {
			t.FailNow()
		}
	}
	for _, e := range []api.Errno{api.OK, api.ShErrEarly, api.ShErrLate, api.ShErrWide, api.ShErrDeep, api.ShErrShut} {
		often(t, e, count[e], 2000)
	}
}

// P6.3: Judge and Worth do what the definitions say.
func TestP6_3Model(t *testing.T) {
	r := rand.New(rand.NewSource(603))
	count := map[string]int{}
	for i := range 20000 {
		p := portOf(r, i)
		plan := anyPlan(r, p)
		want := judgedOf(p, plan)
		judged(t, p, p, plan, want...)
		if len(want) == 0 {
			w := worthOf(p, plan)
			worths(t, p, p, plan, w.Value, w.Held)
			count["right"]++
		}
		for _, f := range want {
			count[strconv.Itoa(int(f.Error))]++
		}
		if t.Failed() {
			t.FailNow()
		}
	}
	for _, what := range []string{"right", "160", "161", "162", "163", "164", "165", "166", "167"} {
		often(t, what, count[what], 600)
	}
}

// P6.4: Plan and Best do what the definitions say.
func TestP6_4Model(t *testing.T) {
	r := rand.New(rand.NewSource(604))
	count := map[string]int{}
	for i := range 1500 {
		p := portOf(r, i)
		for range 4 {
			order := r.Perm(len(p.Ships))
			l, e := placedOf(p, nil, order, -1)
			planned(t, p, p, order, l, e)
			for _, x := range l {
				switch {
				case x.Opening == -1:
					count["turned back"]++
				case x.Anchor != -1:
					count["held"]++
				}
			}
			count["plan "+strconv.Itoa(int(e))]++
		}
		if len(p.Ships) > 4 && i%10 > 0 {
			continue // the model takes long for these
		}
		b, e := bestOf(p)
		bests(t, p, p, b.Order, b.Plan, e)
		count["best "+strconv.Itoa(int(e))]++
		if e == api.OK && !slices.IsSorted(b.Order) {
			count["another order"]++
		}
		if t.Failed() {
			t.FailNow()
		}
	}
	for what, least := range map[string]int{"held": 1000, "turned back": 1000, "plan 0": 1000, "plan 9": 500, "best 0": 500, "best 9": 100, "another order": 50} {
		often(t, what, count[what], least)
	}
}

// P6.5: In and Free do what the definitions say.
func TestP6_5Model(t *testing.T) {
	r := rand.New(rand.NewSource(605))
	count := map[string]int{}
	for i := range 1000 {
		p := portOf(r, i)
		plan := anyPlan(r, p)
		for o := range p.Openings {
			for tick := max(p.Levels.From-10, 0); tick <= min(p.Levels.From+len(p.Levels.Values)+20, api.MaxTick); tick++ {
				ship, until := inOf(p, plan, o, tick), freeOf(p, plan, o, tick)
				in(t, p, p, plan, o, tick, ship)
				free(t, p, p, plan, o, tick, until)
				count["in"] += min(ship+1, 1)
				count["not free"] += min(until-tick, 1)
			}
		}
		if t.Failed() {
			t.FailNow()
		}
	}
	often(t, "in", count["in"], 3000)
	often(t, "not free", count["not free"], 3000)
}

// P6.6: Replan and Turned do what the definitions say.
func TestP6_6Model(t *testing.T) {
	r := rand.New(rand.NewSource(606))
	count := map[string]int{}
	for i := range 5000 {
		p := portOf(r, i)
		plan := anyPlan(r, p)
		now := min(max(p.Levels.From+from(r, -10, 30), 0), api.MaxTick)
		want, e := replanOf(p, plan, now)
		replanned(t, p, p, plan, now, want, e)
		count[strconv.Itoa(int(e))]++
		other := anyPlan(r, p)
		if e == api.OK && r.Intn(2) == 0 {
			other = want
		}
		l := turnedOf(plan, other)
		turned(t, p, p, plan, other, l...)
		count["turned"] += len(l)
		if e == api.OK && len(judgedOf(p, plan)) > 0 && !same(want, plan) {
			count["wrong before"]++
		}
		if t.Failed() {
			t.FailNow()
		}
	}
	for what, least := range map[string]int{"0": 1000, "9": 500, "turned": 1000, "wrong before": 500} {
		often(t, what, count[what], least)
	}
}
