package closure_test

import (
	"math"
	"slices"
	"testing"

	"barrage/api"
	"barrage/closure"
)

// full returns a task without errors that has two polders, three histories of three ticks, and a delay.
func full() api.ClTask {
	t := estuary()
	t.Basin.Polders = []api.BsPolder{{Name: "low", Sill: 200, Take: 300, Room: 50000}, {Name: "high", Sill: 1000, Take: 200, Room: 400000}}
	t.Filled = ints(10, 20)
	t.Histories = histories(10, ints(0, 900, 0), ints(1, 2, 3), ints(1000, 0, 1000))
	t.River = ints(1, 2, 3)
	return t
}

// badAsk is arguments of which none is right.
func badAsk() asked {
	return asked{from: -1, history: -1, tick: -1, plan: plan(-2, -2), rules: rules(0, -1), decision: decision(plan(-2, -2), nil, nil)}
}

// fails tests where a task has its error, and that all functions return it, and nothing else.
func fails(t *testing.T, what any, x api.ClTask, part, at int, e api.Errno) {
	t.Helper()
	if p, a, f := closure.Check(x); p != part || a != at || f != e {
		t.Errorf("%v: %d, %d, %d; not %d, %d, %d", what, p, a, f, part, at, e)
	}
	if e == api.OK {
		return
	}
	for _, y := range every(x, badAsk()) {
		if y.e != e || !isZero(y) {
			t.Errorf("%v: %s: %v, %d; not %d", what, y.name, y.value, y.e, e)
		}
	}
}

// P5.1: the errors of a task come in their order: repaired one by one, each time the next one is told.
func TestP5_1Order(t *testing.T) {
	x := full()
	x.Basin.Rows, x.Basin.Leak = nil, -1
	good := x.Histories
	x.Histories = nil
	x.River, x.Filled, x.Out = ints(-1), nil, -1
	for i, s := range []struct {
		repair   func()
		part, at int
		e        api.Errno
	}{
		{func() {}, 1, 0, api.ErrLong},
		{func() { x.Basin.Rows = rows(-1000, 0, 0, 1000000, 0, 0) }, 1, 0, api.ErrArg},
		{func() { x.Basin.Rows = rows(-1000, 0, 0, 1000000, 2000, 5000000) }, 1, 0, api.ErrRange},
		{func() { x.Basin.Leak, x.Basin.Polders[1].Name = 100, "low" }, 1, 0, api.ErrTwice},
		{func() { x.Basin.Polders[1].Name, x.Basin.Leak = "high", 1001 }, 1, 0, api.ErrArg},
		{func() { x.Basin.Leak = 100 }, 2, 0, api.ErrLong},
		{func() { x.Histories = make([]api.Series, 3) }, 2, 0, api.ErrLong},
		{func() { x.Histories[0] = series(-1, 0, 900, 20001) }, 2, 0, api.ErrRange},
		{func() { x.Histories[0].From = 10 }, 2, 0, api.ErrRange},
		{func() { x.Histories[0].Values[2] = 0 }, 2, 1, api.ErrArg},
		{func() { x.Histories[1] = series(11, 20001, 0, 0) }, 2, 1, api.ErrArg},
		{func() { x.Histories[1] = series(10, 20001, 0) }, 2, 1, api.ErrArg},
		{func() { x.Histories[1] = series(10, 20001, 0, 0) }, 2, 1, api.ErrRange},
		{func() { x.Histories[1] = good[1] }, 2, 2, api.ErrArg},
		{func() { x.Histories[2] = good[2] }, 3, 0, api.ErrArg},
		{func() { x.River = ints(0, 0, -1) }, 3, 0, api.ErrRange},
		{func() { x.River = ints(1, 2, 3) }, 4, 0, api.ErrArg},
		{func() { x.Filled = ints(0, -1) }, 4, 0, api.ErrRange},
		{func() { x.Filled = ints(10, 20) }, 4, 0, api.ErrRange},
		{func() { x.Out, x.Limit = 0, -1001 }, 4, 0, api.ErrRange},
		{func() { x.Limit, x.Delay = 800, 31 }, 4, 0, api.ErrRange},
		{func() { x.Delay = 1 }, 0, 0, api.OK},
	} {
		s.repair()
		fails(t, i, x, s.part, s.at, s.e)
	}
}

// P5.1: each number of a task, at both of its limits and beyond them.
func TestP5_1Limits(t *testing.T) {
	for what, l := range map[string]struct {
		set      func(x *api.ClTask, n int)
		lo, hi   int
		part, at int
	}{
		"first value": {func(x *api.ClTask, n int) { x.Histories[0].Values[0] = n }, -20000, 20000, 2, 0},
		"last value":  {func(x *api.ClTask, n int) { x.Histories[2].Values[2] = n }, -20000, 20000, 2, 2},
		"From": {func(x *api.ClTask, n int) {
			for i := range x.Histories {
				x.Histories[i].From = n
			}
		}, 0, 199998, 2, 0},
		"first River":  {func(x *api.ClTask, n int) { x.River[0] = n }, 0, 10000000, 3, 0},
		"last River":   {func(x *api.ClTask, n int) { x.River[2] = n }, 0, 10000000, 3, 0},
		"first Filled": {func(x *api.ClTask, n int) { x.Filled[0] = n }, 0, 50000, 4, 0},
		"last Filled":  {func(x *api.ClTask, n int) { x.Filled[1] = n }, 0, 400000, 4, 0},
		"Out":          {func(x *api.ClTask, n int) { x.Out = n }, 0, 10000000, 4, 0},
		"Limit":        {func(x *api.ClTask, n int) { x.Limit = n }, -1000, 20000, 4, 0},
		"Delay":        {func(x *api.ClTask, n int) { x.Delay = n }, 0, 30, 4, 0},
	} {
		for _, n := range append(wild(), l.lo-1, l.lo, l.lo+1, l.hi-1, l.hi, l.hi+1) {
			x := full()
			l.set(&x, n)
			if l.lo <= n && n <= l.hi {
				fails(t, what, x, 0, 0, api.OK)
			} else {
				fails(t, what, x, l.part, l.at, api.ErrRange)
			}
		}
	}
}

// P5.1: how many histories, values and other numbers there may be.
func TestP5_1Long(t *testing.T) {
	for n := range 70 {
		x := full()
		x.Histories = slices.Repeat(x.Histories[:1], n)
		if 1 <= n && n <= 8 {
			fails(t, n, x, 0, 0, api.OK)
		} else {
			fails(t, n, x, 2, 0, api.ErrLong)
		}
		x = full()
		x.River = make([]int, n)
		for i := range x.Histories {
			x.Histories[i].Values = make([]int, n)
		}
		if 1 <= n && n <= 60 {
			fails(t, n, x, 0, 0, api.OK)
		} else {
			fails(t, n, x, 2, 0, api.ErrLong)
		}
		for i := range ints(1, 2) {
			x = full()
			x.Histories[i+1].Values = make([]int, n)
			if n != 3 {
				fails(t, n, x, 2, i+1, api.ErrArg)
			}
		}
		x = full()
		x.River = make([]int, n)
		if n != 3 {
			fails(t, n, x, 3, 0, api.ErrArg)
		}
		x = full()
		x.Filled = make([]int, n)
		if n != 2 {
			fails(t, n, x, 4, 0, api.ErrArg)
		}
	}
	x := full()
	x.Basin.Polders, x.Filled = nil, nil
	fails(t, "no polders", x, 0, 0, api.OK)
}

// P5.1: the ticks of a task are all ticks, and those of all histories.
func TestP5_1Ticks(t *testing.T) {
	for _, n := range ints(1, 2, 60) {
		for _, at := range append(wild(), -1, 0, 1, 200000-n, 200001-n, 200002-n, 200000, 200001) {
			x := tub(at, make([]int, n), make([]int, n))
			if 0 <= at && at <= 200001-n {
				fails(t, at, x, 0, 0, api.OK)
			} else {
				fails(t, at, x, 2, 0, api.ErrRange)
			}
		}
	}
	for _, at := range append(wild(), 9, 11) {
		for i := range ints(1, 2) {
			x := full()
			x.Histories[i+1].From = at
			fails(t, at, x, 2, i+1, api.ErrArg)
		}
	}
	// The first history with an error decides, not the worst error.
	x := full()
	x.Histories[1].Values[0], x.Histories[2].From = 20001, 11
	fails(t, "two", x, 2, 1, api.ErrRange)
	x.Histories[0].From = 11
	fails(t, "first", x, 2, 1, api.ErrArg)
}

// P5.1: any error of the basin is one of part 1, without an index; so is one of a polder that has an index in it.
func TestP5_1Basin(t *testing.T) {
	for what, c := range map[string]struct {
		set func(b *api.BsBasin)
		e   api.Errno
	}{
		"nothing":       {func(b *api.BsBasin) { *b = api.BsBasin{} }, api.ErrLong},
		"a row":         {func(b *api.BsBasin) { b.Rows[2].Level = 20001 }, api.ErrRange},
		"order":         {func(b *api.BsBasin) { b.Rows[2].Volume = 5 }, api.ErrArg},
		"crest":         {func(b *api.BsBasin) { b.Crest = -20001 }, api.ErrRange},
		"a polder":      {func(b *api.BsBasin) { b.Polders[1].Name = "High" }, api.ErrForm},
		"polders":       {func(b *api.BsBasin) { b.Polders[1].Name = "low" }, api.ErrTwice},
		"a polder room": {func(b *api.BsBasin) { b.Polders[1].Room = -1 }, api.ErrRange},
		"not wide":      {func(b *api.BsBasin) { b.Polders[1].Take = 1001 }, api.ErrArg},
	} {
		x := full()
		c.set(&x.Basin)
		fails(t, what, x, 1, 0, c.e)
	}
}

// P5.5 to P5.8: rules that are not as stated are an error before all others but that of the task.
func TestP5_5Rules(t *testing.T) {
	x := full()
	for _, n := range append(wild(), -1, 0, 1, 2, 7, 8, 9, 59, 60, 61) {
		for _, r := range []api.ClRules{rules(n, 3), rules(1, n), rules(n, n), rules(8, n), rules(n, 60), rules(n, 0)} {
			right := 1 <= r.Count && r.Count <= 8 && 0 <= r.Early && r.Early <= 60
			ask := badAsk()
			ask.rules = r
			for _, y := range every(x, ask) {
				switch y.name {
				case "Quiet", "Plan", "Inner", "Holds", "Last":
					continue
				}
				if got := y.e != api.ErrRange; got != right || !right && !isZero(y) {
					t.Errorf("%v: %s: %v, %d", r, y.name, y.value, y.e)
				}
			}
		}
	}
	// A task with an error has this, whatever the rules are.
	x.Delay = -1
	x.Filled = nil
	ask := badAsk()
	for _, y := range every(x, ask) {
		if y.e != api.ErrArg || !isZero(y) {
			t.Errorf("%s: %v, %d", y.name, y.value, y.e)
		}
	}
	if yes, e := closure.Allowed(full(), law(), math.MinInt); yes || e != api.OK {
		t.Errorf("%v, %d", yes, e)
	}
}
