package ship_test

import (
	"math/rand"
	"slices"
	"testing"

	"barrage/api"
	"barrage/ship"
)

// ports does something with many ports without errors.
func ports(seed int64, n int, do func(r *rand.Rand, p api.ShPort)) {
	r := rand.New(rand.NewSource(seed))
	for i := range n {
		do(r, portOf(r, i))
	}
}

// faultless returns a plan without faults, by some order or another one, if there is one.
func faultless(r *rand.Rand, p api.ShPort) ([]api.ShPassage, bool) {
	for range 5 {
		plan := anyPlan(r, p)
		if l, e := ship.Judge(p, plan); e == api.OK && len(l) == 0 {
			return plan, true
		}
	}
	return nil, false
}

// around returns the ticks at which something can happen in a port.
func around(p api.ShPort) []int {
	return ticks(max(p.Levels.From-12, 0), min(p.Levels.From+len(p.Levels.Values)+20, api.MaxTick+1))
}

// P6.7: by a plan without faults no ship is in an opening while it is shut, nor less than Margin ticks before; no two are in the same one; and there is room for those that are held.
func TestP6_7Safe(t *testing.T) {
	n, held := 0, 0
	ports(607, 3000, func(r *rand.Rand, p api.ShPort) {
		plan, ok := faultless(r, p)
		if !ok {
			return
		}
		l := placings(plan)
		for _, tick := range around(p) {
			for o := range p.Openings {
				ships := 0
				for _, a := range l {
					if !isInAt(p, a, o, tick) {
						continue
					}
					ships++
					for _, soon := range ticks(tick, tick+p.Margin+1) {
						if isShutAt(p.Openings[o], soon) {
							t.Fatalf("%+v: %v: %d at %d", p, plan, a.ship, tick)
						}
					}
				}
				if ships > 1 {
					t.Fatalf("%+v: %v: %d ships in %d at %d", p, plan, ships, o, tick)
				}
				n += ships
			}
			for i, anchor := range p.Anchors {
				sum := 0
				for _, a := range l {
					if isHeldAt(p, a, i, tick) {
						sum += p.Ships[a.ship].Length
						held++
					}
				}
				if sum > anchor.Room {
					t.Fatalf("%+v: %v: %d at %d", p, plan, i, tick)
				}
			}
		}
	})
	often(t, "in an opening", n, 3000)
	often(t, "held", held, 1000)
}

// begins returns whether a ship could begin at a tick, by a plan of the ships of an order before it.
func begins(p api.ShPort, before []placing, index, tick int) bool {
	return slices.ContainsFunc(passages(p, index, tick-1), func(a placing) bool {
		return a.Start == tick && len(faultsOf(p, before, a)) == 0
	})
}

// P6.8: Plan returns a plan without faults; a ship does not change what those before it do; none can begin earlier.
func TestP6_8Order(t *testing.T) {
	n, earlier := 0, 0
	ports(608, 2000, func(r *rand.Rand, p api.ShPort) {
		order := r.Perm(len(p.Ships))
		plan, e := ship.Plan(p, order)
		if e != api.OK {
			return
		}
		n++
		judged(t, p, p, plan)
		for k := range order {
			// The same ships without those from this one on in the order.
			less := p
			less.Ships = nil
			var shorter []int
			var want []api.ShPassage
			var before []placing
			for i, s := range p.Ships {
				if at := slices.Index(order, i); at < k {
					less.Ships = append(less.Ships, s)
					want = append(want, plan[i])
					before = append(before, placing{i, plan[i]})
				}
			}
			for _, i := range order[:k] {
				at := slices.IndexFunc(less.Ships, func(s api.ShShip) bool { return s.Name == p.Ships[i].Name })
				shorter = append(shorter, at)
			}
			planned(t, p, less, shorter, want, api.OK)
			x := plan[order[k]]
			last := p.Levels.From + len(p.Levels.Values)
			if x.Opening != -1 {
				last = x.Start - 1
			}
			for _, tick := range ticks(p.Ships[order[k]].Ready, last+1) {
				earlier++
				if begins(p, before, order[k], tick) {
					t.Errorf("%+v: by %v %v: %d could begin at %d", p, order, plan, order[k], tick)
				}
			}
		}
		if t.Failed() {
			t.FailNow()
		}
	})
	often(t, "plans", n, 1000)
	often(t, "ticks", earlier, 5000)
}

// P6.9: no plan by an order is worth more than that of Best, or as much with less holding.
func TestP6_9Best(t *testing.T) {
	n := 0
	ports(609, 400, func(r *rand.Rand, p api.ShPort) {
		order, plan, e := ship.Best(p)
		if e == api.OK {
			planned(t, p, p, order, plan, api.OK)
		}
		for _, o := range ordersOf(len(p.Ships)) {
			l, f := ship.Plan(p, o)
			if f != api.OK {
				continue
			}
			n++
			w, most := worthOf(p, l), worthOf(p, plan)
			if e != api.OK || w.Value > most.Value || w.Value == most.Value && w.Held < most.Held {
				t.Fatalf("%+v: %v, %v, %d; but %v", p, order, plan, e, o)
			}
			if w == most && slices.Compare(o, order) < 0 {
				t.Fatalf("%+v: %v; not %v", p, order, o)
			}
		}
	})
	often(t, "orders", n, 3000)
}

// nextStart returns the first tick from one on at which a ship begins to pass an opening; the last tick of all if none does.
func nextStart(plan []api.ShPassage, opening, tick int) int {
	next := api.MaxTick
	for _, x := range plan {
		if x.Opening == opening && x.Start >= tick {
			next = min(next, x.Start)
		}
	}
	return next
}

// P6.10: at the tick that Free returns no ship is in the opening, nor was there in the margin before; at no tick before it is that so; and it may be shut from then on until the next ship begins.
func TestP6_10Free(t *testing.T) {
	n, shutAt := 0, 0
	ports(610, 1500, func(r *rand.Rand, p api.ShPort) {
		for i := range p.Openings { // so that one more span has room
			p.Openings[i].Shut = p.Openings[i].Shut[:min(len(p.Openings[i].Shut), 3)]
		}
		plan := anyPlan(r, p)
		if x, ok := faultless(r, p); ok {
			plan = x
		}
		wrong := judgedOf(p, plan)
		clear := func(opening, tick int) bool {
			return !slices.ContainsFunc(ticks(tick-p.Margin, tick+1), func(at int) bool { return inOf(p, plan, opening, at) >= 0 })
		}
		for o := range p.Openings {
			for _, tick := range around(p) {
				until, e := ship.Free(p, plan, o, tick)
				if e != api.OK || !clear(o, until) {
					t.Fatalf("%+v: %v: %d from %d: %d, %d", p, plan, o, tick, until, e)
				}
				for _, before := range ticks(tick, until) {
					n++
					if clear(o, before) {
						t.Fatalf("%+v: %v: %d from %d: %d, not %d", p, plan, o, tick, until, before)
					}
				}
				if len(wrong) > 0 || until > api.MaxTick {
					continue
				}
				q := copyPort(p)
				q.Openings[o].Shut = append(q.Openings[o].Shut, api.ShSpan{From: until, Until: nextStart(plan, o, until)})
				judged(t, "shut", q, plan)
				shutAt++
			}
		}
		if t.Failed() {
			t.FailNow()
		}
	})
	often(t, "before", n, 5000)
	often(t, "shut", shutAt, 5000)
}

// P6.11: Replan keeps each passage that has begun; if none has, and all ships are ready later, it returns the plan by the order of the indices.
func TestP6_11Begun(t *testing.T) {
	begun, none := 0, 0
	ports(611, 4000, func(r *rand.Rand, p api.ShPort) {
		plan := anyPlan(r, p)
		now := min(max(p.Levels.From+from(r, -10, 30), 0), api.MaxTick)
		l, e := ship.Replan(p, plan, now)
		for i, x := range plan {
			if x.Opening == -1 || x.Start > now {
				if e == api.OK && l[i].Opening != -1 && l[i].Start <= now {
					t.Fatalf("%+v: %v at %d: %v", p, plan, now, l)
				}
				continue
			}
			if e == api.OK {
				begun++
			}
			if e == api.OK && l[i] != x {
				t.Fatalf("%+v: %v at %d: %v", p, plan, now, l)
			}
		}
		for i := range p.Ships {
			if p.Ships[i].Ready == 0 {
				return
			}
			now = min(now, p.Ships[i].Ready-1)
		}
		for _, x := range plan {
			if x.Opening != -1 && x.Start <= now {
				return
			}
		}
		order := ticks(0, len(p.Ships))
		want, f := ship.Plan(p, order)
		replanned(t, p, p, plan, now, want, f)
		none++
		if t.Failed() {
			t.FailNow()
		}
	})
	often(t, "begun", begun, 1000)
	often(t, "none has begun", none, 1000)
}
