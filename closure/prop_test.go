package closure_test

import (
	"math/rand"
	"slices"
	"testing"

	"barrage/api"
	"barrage/closure"
)

// tasks does something with many tasks without errors, and rules for them; some are of basins without room for much more water.
func tasks(seed int64, n int, do func(r *rand.Rand, x api.ClTask, law api.ClRules)) {
	r := rand.New(rand.NewSource(seed))
	for i := range n {
		if i%5 == 0 {
			do(r, fullTask(r), anyRules(r))
		} else {
			do(r, anyTask(r), anyRules(r))
		}
	}
}

// often tests that something that is counted was there often enough.
func often(t *testing.T, what string, n, least int) {
	t.Helper()
	if n < least {
		t.Errorf("%s: only %d times", what, n)
	}
}

// held returns for which histories a plan holds.
func held(t *testing.T, x api.ClTask, p api.ClPlan) []bool {
	t.Helper()
	l, e := closure.Holds(x, p)
	if e != api.OK || len(l) != len(x.Histories) {
		t.Fatalf("%+v: %v: %v, %d", x, p, l, e)
	}
	return l
}

// decided returns what Decide does, if it closes.
func decided(x api.ClTask, law api.ClRules) (api.ClDecision, bool) {
	d, e := closure.Decide(x, law)
	return d, e == api.OK && d.Plan != unclosed()
}

// lower returns a history that is nowhere above one of a task.
func lower(r *rand.Rand, x api.ClTask, history int) api.Series {
	s := x.Histories[history]
	s.Values = slices.Clone(s.Values)
	most := r.Intn(40)
	for i := range s.Values {
		s.Values[i] = max(s.Values[i]-r.Intn(most+1), -20000)
	}
	return s
}

// P5.9: if a plan holds for a history, it does for any one that is not above it.
func TestP5_9Lower(t *testing.T) {
	n, m := 0, 0
	tasks(509, 2000, func(r *rand.Rand, x api.ClTask, law api.ClRules) {
		for _, p := range plansOf(x) {
			for h, yes := range held(t, x, p) {
				y := copyTask(x)
				y.Histories = []api.Series{lower(r, x, h)}
				if !yes {
					continue
				}
				n++
				holds(t, x, y, p, true)
			}
		}
		d, yes := decided(x, law)
		if !yes {
			return
		}
		for h := range x.Histories {
			y := copyTask(x)
			y.Histories = []api.Series{lower(r, x, h)}
			l, e := closure.Inner(y, 0, d.Plan)
			if e != api.OK || slices.ContainsFunc(l, func(s api.Span) bool { return s.Hi > x.Limit }) {
				t.Errorf("%+v: %v: %v, %d", y, d.Plan, l, e)
			}
			m++
		}
	})
	often(t, "held", n, 5000)
	often(t, "decided", m, 300)
}

// P5.10: if a plan holds for all histories, so does the plan from its tick, which opens no later.
func TestP5_10Opening(t *testing.T) {
	n := 0
	tasks(510, 2000, func(r *rand.Rand, x api.ClTask, law api.ClRules) {
		for _, p := range plansOf(x)[1:] {
			if slices.Contains(held(t, x, p), false) {
				continue
			}
			n++
			best, e := closure.Plan(x, p.Close)
			if e != api.OK || best.Open > p.Open || slices.Contains(held(t, x, best), false) {
				t.Errorf("%+v: %v, %v, %d", x, p, best, e)
			}
		}
	})
	often(t, "held", n, 3000)
}

// P5.11: what is decided is accepted; any decision to close that is accepted has the same Close, no later plan holds, and the rules allow it.
func TestP5_11Last(t *testing.T) {
	n, m := 0, 0
	tasks(511, 3500, func(r *rand.Rand, x api.ClTask, law api.ClRules) {
		d, e := closure.Decide(x, law)
		if e != api.OK {
			return
		}
		accept(t, x, x, law, d, 0, api.OK)
		for range 10 {
			other := mixed(r, x, d)
			if _, e := closure.Accept(x, law, other); e != api.OK || other.Plan == unclosed() {
				continue
			}
			n++
			if !same(other, d) {
				m++ // with another witness
			}
			yes, e := closure.Allowed(x, law, other.Plan.Close)
			if other.Plan.Close != d.Plan.Close || !yes || e != api.OK {
				t.Errorf("%+v: %v, %v", x, other, d)
			}
			for _, p := range plansOf(x) {
				if p.Close > other.Plan.Close && !slices.Contains(held(t, x, p), false) {
					t.Errorf("%+v: %v, %v", x, other, p)
				}
			}
		}
	})
	often(t, "accepted", n, 500)
	often(t, "another one", m, 100)
}

// without returns the task with one history less.
func without(x api.ClTask, history int) api.ClTask {
	x = copyTask(x)
	x.Histories = slices.Delete(x.Histories, history, history+1)
	return x
}

// P5.12: with one history less it is not closed earlier.
func TestP5_12Less(t *testing.T) {
	n, m := 0, 0
	tasks(512, 5000, func(r *rand.Rand, x api.ClTask, law api.ClRules) {
		d, yes := decided(x, law)
		if !yes || len(x.Histories) == 1 {
			return
		}
		for h := range x.Histories {
			y := without(x, h)
			if yes, _ := closure.Allowed(y, law, d.Plan.Close); !yes {
				continue
			}
			n++
			less, e := closure.Decide(y, law)
			if e != api.OK || less.Plan.Close < d.Plan.Close {
				t.Errorf("%+v: %v; %v, %d", x, d, less, e)
			}
			if less.Plan.Close > d.Plan.Close {
				m++
			}
		}
	})
	often(t, "less", n, 500)
	often(t, "later", m, 100)
}

// P5.12: with a greater limit each plan that held for a history holds, and Last is not earlier.
func TestP5_12Limit(t *testing.T) {
	n, m := 0, 0
	tasks(513, 2000, func(r *rand.Rand, x api.ClTask, law api.ClRules) {
		y := copyTask(x)
		y.Limit += r.Intn(20)
		for _, p := range plansOf(x) {
			more := held(t, y, p)
			for h, yes := range held(t, x, p) {
				if yes && !more[h] {
					t.Errorf("%+v: %d: %v", x, y.Limit, p)
				}
				if !yes && more[h] {
					n++
				}
			}
		}
		for h := range x.Histories {
			before, e := closure.Last(x, h)
			if e != api.OK {
				continue
			}
			if after, e := closure.Last(y, h); e != api.OK || after < before {
				t.Errorf("%+v: %d: %d; %d, %d", x, y.Limit, before, after, e)
			} else if after > before {
				m++
			}
		}
	})
	often(t, "held more", n, 500)
	often(t, "later", m, 100)
}

// P5.13: a decision closes no later than the last tick of each history; the levels of Inner tell what Holds does.
func TestP5_13Alone(t *testing.T) {
	n, m, long := 0, 0, 0
	tasks(514, 2000, func(r *rand.Rand, x api.ClTask, law api.ClRules) {
		if d, yes := decided(x, law); yes {
			for h := range x.Histories {
				n++
				if tick, e := closure.Last(x, h); e != api.OK || d.Plan.Close > tick {
					t.Errorf("%+v: %v: %d: %d, %d", x, d, h, tick, e)
				}
			}
		}
		for _, p := range plansOf(x) {
			for h, yes := range held(t, x, p) {
				l, e := closure.Inner(x, h, p)
				above := slices.ContainsFunc(l, func(s api.Span) bool { return s.Hi > x.Limit })
				if e != api.OK && e != api.ErrLong || yes == (above || e == api.ErrLong) {
					t.Errorf("%+v: %v: %v: %v, %d", x, p, yes, l, e)
				}
				if yes {
					m++
				}
				if e == api.ErrLong {
					long++
				}
			}
		}
	})
	often(t, "decided", n, 300)
	often(t, "held", m, 5000)
	often(t, "too great", long, 500)
}

// P5.14: where there is a decision, it is the best; the best plan holds for as many histories as any that is allowed.
func TestP5_14Best(t *testing.T) {
	n, m := 0, 0
	count := func(l []bool) int {
		return len(slices.DeleteFunc(slices.Clone(l), func(yes bool) bool { return !yes }))
	}
	tasks(515, 2500, func(r *rand.Rand, x api.ClTask, law api.ClRules) {
		p, not, e := closure.Best(x, law)
		if d, yes := decided(x, law); yes {
			n++
			bests(t, x, x, law, d.Plan, nil, api.OK)
		}
		if e != api.OK {
			return
		}
		l := held(t, x, p)
		for h, yes := range l {
			if yes == slices.Contains(not, h) {
				t.Errorf("%+v: %v, %v, %v", x, p, not, l)
			}
		}
		for _, tick := range ticksOf(x) {
			if yes, _ := closure.Allowed(x, law, tick); !yes {
				continue
			}
			m++
			other, _ := closure.Plan(x, tick)
			if many := count(held(t, x, other)); many > count(l) || many == count(l) && tick > p.Close {
				t.Errorf("%+v: %v, %v", x, p, other)
			}
		}
	})
	often(t, "decided", n, 250)
	often(t, "other ticks", m, 3000)
}
