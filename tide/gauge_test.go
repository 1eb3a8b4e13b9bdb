package tide_test

import (
	"math/rand"
	"slices"
	"testing"

	"barrage/api"
	"barrage/tide"
)

// P1.4: each number of a gauge, at both of its limits and beyond them.
func TestP1_4Limits(t *testing.T) {
	for what, l := range map[string]struct {
		set      func(g *api.TdGauge, x int)
		lo, hi   int
		part, at int
	}{
		"Error":        {func(g *api.TdGauge, x int) { g.Error = x }, 0, 5000, 1, 0},
		"Rate":         {func(g *api.TdGauge, x int) { g.Rate = x }, 0, 5000, 1, 0},
		"first From":   {func(g *api.TdGauge, x int) { g.Datums[0].From = x }, 0, 0, 2, 0},
		"first Lo":     {func(g *api.TdGauge, x int) { g.Datums[0].Shift.Lo = x }, -5000, 0, 2, 0},
		"first Hi":     {func(g *api.TdGauge, x int) { g.Datums[0].Shift.Hi = x }, 0, 5000, 2, 0},
		"From":         {func(g *api.TdGauge, x int) { g.Datums[1].From = x }, 1, 200000, 2, 1},
		"Lo":           {func(g *api.TdGauge, x int) { g.Datums[1].Shift.Lo = x }, -5000, 40, 2, 1},
		"Hi":           {func(g *api.TdGauge, x int) { g.Datums[1].Shift.Hi = x }, 30, 5000, 2, 1},
		"low Shift":    {func(g *api.TdGauge, x int) { g.Datums[1].Shift = sp(x, x) }, -5000, 5000, 2, 1},
		"first Tick":   {func(g *api.TdGauge, x int) { g.Readings[0].Tick = x }, 0, 109, 3, 0},
		"Tick":         {func(g *api.TdGauge, x int) { g.Readings[1].Tick = x }, 91, 200000, 3, 1},
		"first Value":  {func(g *api.TdGauge, x int) { g.Readings[0].Value = x }, -30000, 30000, 3, 0},
		"second Value": {func(g *api.TdGauge, x int) { g.Readings[1].Value = x }, -30000, 30000, 3, 1},
	} {
		for _, x := range append(wild(), l.lo-1, l.lo, l.hi, l.hi+1) {
			g := pier()
			l.set(&g, x)
			part, at, e := tide.CheckGauge(g)
			if l.lo <= x && x <= l.hi {
				if part != 0 || at != 0 || e != api.OK {
					t.Errorf("%s %d: %d, %d, %d", what, x, part, at, e)
				}
				continue
			}
			wantAt := l.at
			if what == "first Tick" && 109 < x && x <= 200000 {
				wantAt = 1 // the second one is not above it
			}
			if part != l.part || at != wantAt || e != api.ErrRange {
				t.Errorf("%s %d: %d, %d, %d", what, x, part, at, e)
			}
		}
	}
}

// P1.4: how many datums and readings there may be.
func TestP1_4Counts(t *testing.T) {
	for n := range 12 {
		g := mute("gauge")
		g.Datums = nil
		for i := range n {
			g.Datums = append(g.Datums, api.TdDatum{From: 3 * i})
		}
		part, at, e := tide.CheckGauge(g)
		if right := 1 <= n && n <= 8; right && (part != 0 || at != 0 || e != api.OK) || !right && (part != 2 || at != 0 || e != api.ErrLong) {
			t.Errorf("%d datums: %d, %d, %d", n, part, at, e)
		}
	}
	for n := range 64 {
		g := mute("gauge")
		for i := range n {
			g.Readings = append(g.Readings, api.TdReading{Tick: i})
		}
		part, at, e := tide.CheckGauge(g)
		if n <= 60 && (part != 0 || at != 0 || e != api.OK) || n > 60 && (part != 3 || at != 0 || e != api.ErrLong) {
			t.Errorf("%d readings: %d, %d, %d", n, part, at, e)
		}
	}
}

// P1.4: of several errors the first one; all of them are there at first, and are taken away one after the other. The other functions have the same error first, whatever else is wrong.
func TestP1_4Order(t *testing.T) {
	g := api.TdGauge{
		Name: "Pier", Error: -1, Rate: -1,
		Datums:   slices.Repeat([]api.TdDatum{{From: -1, Shift: sp(1, 0)}}, 9),
		Readings: slices.Repeat([]api.TdReading{{Tick: -1, Value: 30001}}, 61),
	}
	for i, s := range []struct {
		repair   func()
		part, at int
		e        api.Errno
	}{
		{func() {}, 1, 0, api.ErrForm},
		{func() { g.Name = "pier" }, 1, 0, api.ErrRange},
		{func() { g.Error = 0 }, 1, 0, api.ErrRange},
		{func() { g.Rate = 0 }, 2, 0, api.ErrLong},
		{func() { g.Datums = g.Datums[:2] }, 2, 0, api.ErrRange},
		{func() { g.Datums[0].From = 0 }, 2, 0, api.ErrRange},
		{func() { g.Datums[0].Shift = sp(0, 0) }, 2, 1, api.ErrRange},
		{func() { g.Datums[1].From = 0 }, 2, 1, api.ErrRange},
		{func() { g.Datums[1].From = 1 }, 2, 1, api.ErrRange},
		{func() { g.Datums[1].Shift = sp(0, 5001) }, 2, 1, api.ErrRange},
		{func() { g.Datums[1].Shift = sp(0, 0) }, 3, 0, api.ErrLong},
		{func() { g.Readings = g.Readings[:2] }, 3, 0, api.ErrRange},
		{func() { g.Readings[0].Tick = 5 }, 3, 0, api.ErrRange},
		{func() { g.Readings[0].Value = 0 }, 3, 1, api.ErrRange},
		{func() { g.Readings[1].Tick = 5 }, 3, 1, api.ErrRange},
		{func() { g.Readings[1].Value = 0 }, 3, 1, api.ErrRange},
		{func() { g.Readings[1].Tick = 6 }, 0, 0, api.OK},
	} {
		s.repair()
		if part, at, e := tide.CheckGauge(g); part != s.part || at != s.at || e != s.e {
			t.Errorf("%d: %d, %d, %d", i, part, at, e)
		}
		if s.e == api.OK {
			continue
		}
		a, e1 := tide.Says(g, -1, -1)
		b, e2 := tide.Sound([]api.TdGauge{mute("pier"), g, {}}, 9, -1, -1)
		many, others, e3 := tide.Agree([]api.TdGauge{mute("pier"), g, {}}, -1, -1)
		c, e4 := tide.Fit(g, -1, -1, []api.Span{sp(1, 0)})
		d, e5 := tide.Residual(moon(), []api.TdGauge{mute("pier"), g, {}}, 9, -1, -1)
		if e1 != s.e || e2 != s.e || e3 != s.e || e4 != s.e || e5 != s.e {
			t.Errorf("%d: %d, %d, %d, %d, %d", i, e1, e2, e3, e4, e5)
		}
		if a != sp(0, 0) || b != sp(0, 0) || c != sp(0, 0) || d != sp(0, 0) || many != 0 || len(others) != 0 {
			t.Errorf("%d: results beside an error", i)
		}
	}
}

// P1.4: what a gauge says, by hand.
func TestP1_4Says(t *testing.T) {
	shifted := pier()
	shifted.Readings = []api.TdReading{{Tick: 99, Value: 0}, {Tick: 100, Value: 0}, {Tick: 101, Value: 0}}
	shifted.Datums = append(shifted.Datums, api.TdDatum{From: 101, Shift: sp(-300, -30)})
	still := mute("still")
	still.Readings = []api.TdReading{{Tick: 5, Value: 7}, {Tick: 9, Value: 7}}
	touch := mute("touch")
	touch.Rate = 3
	touch.Readings = []api.TdReading{{Tick: 10, Value: 0}, {Tick: 20, Value: 30}}
	far := mute("far")
	far.Rate = api.MaxTdRate
	far.Readings = []api.TdReading{{Tick: 0, Value: 0}}
	for i, c := range []struct {
		g         api.TdGauge
		tick, now int
		want      api.Span
		e         api.Errno
	}{
		{pier(), 90, 100, sp(480, 520), api.OK}, {pier(), 92, 100, sp(380, 620), api.OK}, {pier(), 88, 100, sp(380, 620), api.OK},
		{pier(), 90, 110, sp(480, 520), api.OK}, {pier(), 110, 110, sp(580, 630), api.OK}, {pier(), 110, 109, sp(-520, 1520), api.OK},
		{pier(), 111, 200000, sp(530, 680), api.OK}, {pier(), 100, 200000, sp(80, 1020), api.OK}, {pier(), 0, 90, sp(-4020, 5020), api.OK},
		{pier(), 89, 89, sp(0, 0), api.ErrNone}, {pier(), 110, 0, sp(0, 0), api.ErrNone}, {pier(), 200000, 89, sp(0, 0), api.ErrNone},
		{pier(), 89, 90, sp(430, 570), api.OK}, {mute("a"), 0, 200000, sp(0, 0), api.ErrNone},
		{shifted, 99, 99, sp(-20, 20), api.OK}, {shifted, 100, 100, sp(-60, -10), api.OK}, {shifted, 101, 101, sp(10, 40), api.OK}, {shifted, 101, 100, sp(-110, 40), api.OK},
		{still, 7, 8, sp(7, 7), api.OK}, {still, 200000, 9, sp(7, 7), api.OK}, {torn("a"), 110, 109, sp(0, 0), api.OK}, {torn("a"), 110, 110, sp(0, 0), api.ErrDown},
		{touch, 10, 20, sp(0, 0), api.OK}, {touch, 20, 20, sp(30, 30), api.OK}, {touch, 15, 20, sp(15, 15), api.OK}, {touch, 20, 19, sp(-30, 30), api.OK},
		{far, 200000, 200000, sp(-20000, 20000), api.OK}, {far, 3, 3, sp(-15000, 15000), api.OK}, {far, 5, 5, sp(-20000, 20000), api.OK},
	} {
		if s, e := tide.Says(c.g, c.tick, c.now); s != c.want || e != c.e {
			t.Errorf("%d: %v, %d; not %v, %d", i, s, e, c.want, c.e)
		}
	}
	touch.Readings[1].Value = 31
	if s, e := tide.Says(touch, 15, 20); s != sp(0, 0) || e != api.ErrDown {
		t.Errorf("31: %v, %d", s, e)
	}
}

// P1.4: a gauge says that the level is a level.
func TestP1_4Levels(t *testing.T) {
	for value, want := range map[int]api.Span{
		19990: sp(19980, 20000), 20010: sp(20000, 20000), -19990: sp(-20000, -19980), -20010: sp(-20000, -20000), 19989: sp(19979, 19999),
	} {
		g := mute("gauge")
		g.Error, g.Readings = 10, []api.TdReading{{Tick: 3, Value: value}}
		if s, e := tide.Says(g, 3, 3); s != want || e != api.OK {
			t.Errorf("%d: %v, %d", value, s, e)
		}
	}
	for _, value := range []int{20011, -20011, 30000, -30000} {
		g := mute("gauge")
		g.Error, g.Readings = 10, []api.TdReading{{Tick: 3, Value: value}}
		if s, e := tide.Says(g, 3, 3); s != sp(0, 0) || e != api.ErrDown {
			t.Errorf("%d: %v, %d", value, s, e)
		}
		if s, e := tide.Says(g, 3, 2); s != sp(0, 0) || e != api.ErrNone {
			t.Errorf("%d, not known: %v, %d", value, s, e)
		}
	}
}

// P1.4: ticks of Says; they come before what the gauge says.
func TestP1_4Ticks(t *testing.T) {
	for _, x := range append(wild(), 0, 200000, 200001) {
		for _, g := range []api.TdGauge{pier(), mute("a"), torn("a")} {
			_, e1 := tide.Says(g, x, 120)
			_, e2 := tide.Says(g, 120, x)
			right := 0 <= x && x <= 200000
			if (e1 == api.ErrRange) == right || (e2 == api.ErrRange) == right {
				t.Errorf("%s at %d: %d, %d", g.Name, x, e1, e2)
			}
		}
	}
}

// P1.7: fits by hand, and each of the errors.
func TestP1_7Fit(t *testing.T) {
	one := func(lo, hi int) []api.Span { return []api.Span{sp(lo, hi)} }
	many := pier()
	many.Datums[1].Shift = sp(-5000, 5000)
	many.Readings = append(many.Readings, api.TdReading{Tick: 112, Value: 700})
	for i, c := range []struct {
		g           api.TdGauge
		datum, from int
		levels      []api.Span
		want        api.Span
		e           api.Errno
	}{
		{pier(), 1, 110, one(590, 595), sp(30, 40), api.OK}, // 25 to 70 by the reading
		{pier(), 1, 110, one(580, 590), sp(30, 40), api.OK}, {pier(), 1, 110, one(580, 589), sp(31, 40), api.OK}, {pier(), 1, 110, one(580, 580), sp(40, 40), api.OK}, {pier(), 1, 110, one(570, 579), sp(0, 0), api.ErrDown},
		{pier(), 1, 110, one(620, 700), sp(30, 40), api.OK}, {pier(), 1, 110, one(621, 700), sp(30, 39), api.OK}, {pier(), 1, 110, one(630, 700), sp(30, 30), api.OK}, {pier(), 1, 110, one(631, 700), sp(0, 0), api.ErrDown},
		{pier(), 1, 111, one(0, 0), sp(30, 40), api.OK}, {pier(), 1, 109, one(0, 0), sp(30, 40), api.OK}, {pier(), 1, 90, one(0, 0), sp(30, 40), api.OK}, // no reading of it is told
		{pier(), 1, 108, []api.Span{sp(0, 0), sp(0, 0), sp(590, 625), sp(0, 0)}, sp(30, 40), api.OK}, // -5 to 70
		{pier(), 0, 90, one(500, 500), sp(0, 0), api.OK}, {pier(), 0, 90, one(520, 530), sp(0, 0), api.OK}, {pier(), 0, 90, one(521, 530), sp(0, 0), api.ErrDown}, {pier(), 0, 110, one(0, 0), sp(0, 0), api.OK},
		{many, 1, 110, []api.Span{sp(600, 600), sp(0, 0), sp(640, 650)}, sp(30, 60), api.OK}, // 20 to 60, and 30 to 80
		{many, 1, 112, one(640, 650), sp(30, 80), api.OK}, {many, 1, 111, one(-9, 9), sp(-5000, 5000), api.OK},
		{pier(), 0, 0, nil, sp(0, 0), api.OK}, {pier(), 1, 0, nil, sp(30, 40), api.OK},
		{pier(), 2, 110, one(1, 0), sp(0, 0), api.ErrNone}, {pier(), -1, -1, make([]api.Span, 401), sp(0, 0), api.ErrNone},
		{pier(), 1, -1, slices.Repeat(one(1, 0), 401), sp(0, 0), api.ErrLong}, {pier(), 1, 500, make([]api.Span, 400), sp(30, 40), api.OK},
		{pier(), 1, -1, one(1, 0), sp(0, 0), api.ErrRange}, {pier(), 1, 200001, one(0, 0), sp(0, 0), api.ErrRange}, {pier(), 1, 200000, one(0, 0), sp(30, 40), api.OK},
		{pier(), 1, 200000, make([]api.Span, 2), sp(0, 0), api.ErrRange}, {pier(), 1, 199601, make([]api.Span, 400), sp(30, 40), api.OK}, {pier(), 1, 199602, make([]api.Span, 400), sp(0, 0), api.ErrRange},
		{pier(), 1, 500, one(1, 0), sp(0, 0), api.ErrArg}, {pier(), 1, 500, one(0, 20001), sp(0, 0), api.ErrArg}, {pier(), 1, 500, one(-20001, 0), sp(0, 0), api.ErrArg}, {pier(), 1, 500, one(-20000, 20000), sp(30, 40), api.OK},
		{pier(), 1, 500, []api.Span{sp(0, 0), sp(1, 0)}, sp(0, 0), api.ErrArg}, {pier(), 1, 500, one(20001, 20001), sp(0, 0), api.ErrArg}, {pier(), 1, 110, []api.Span{sp(0, 0), sp(1, 0)}, sp(0, 0), api.ErrArg},
	} {
		if s, e := tide.Fit(c.g, c.datum, c.from, c.levels); s != c.want || e != c.e {
			t.Errorf("%d: %v, %d; not %v, %d", i, s, e, c.want, c.e)
		}
	}
	for _, x := range wild() {
		if s, e := tide.Fit(pier(), 1, x, nil); s != sp(30, 40) || e != api.OK {
			t.Errorf("from %d: %v, %d", x, s, e)
		}
		if _, e := tide.Fit(pier(), 1, x, one(0, 0)); e != api.ErrRange {
			t.Errorf("from %d: %d", x, e)
		}
		if _, e := tide.Fit(pier(), x, 0, nil); e != api.ErrNone {
			t.Errorf("datum %d: %d", x, e)
		}
		for _, s := range []api.Span{sp(x, 0), sp(0, x), sp(x, x)} {
			if x != -1 || s.Hi < s.Lo {
				if _, e := tide.Fit(pier(), 1, 0, []api.Span{s}); e != api.ErrArg {
					t.Errorf("level %v: %d", s, e)
				}
			}
		}
	}
}

// P1.11: the level is in what a gauge says that reads as stated; with more readings known this is no wider.
func TestP1_11Says(t *testing.T) {
	r := rand.New(rand.NewSource(11))
	for range 60 {
		w := anyWorld(r, 50)
		if part, at, e := tide.CheckGauge(w.gauge); e != api.OK {
			t.Fatalf("%+v: %d, %d, %d", w.gauge, part, at, e)
		}
		for tick, x := range w.levels {
			for now := range w.levels {
				s, e := tide.Says(w.gauge, tick, now)
				if known := len(w.gauge.Readings) > 0 && w.gauge.Readings[0].Tick <= now; known != (e == api.OK) || !known && e != api.ErrNone {
					t.Fatalf("%+v: %d at %d, %d", w.gauge, e, tick, now)
				}
				if e == api.OK && !has(s, x) {
					t.Fatalf("%+v: %d at %d is not in %v, known at %d", w.gauge, x, tick, s, now)
				}
			}
		}
	}
}

// P1.11: with more readings known no Lo is less and no Hi greater, or the gauge contradicts itself, and goes on to.
func TestP1_11More(t *testing.T) {
	r := rand.New(rand.NewSource(111))
	downs := 0
	for range 300 {
		w := anyWorld(r, 40)
		for i := range w.gauge.Readings {
			w.gauge.Readings[i].Value = min(max(w.gauge.Readings[i].Value+from(r, -20, 20), -30000), 30000)
		}
		tick, before, last := r.Intn(40), sp(api.MinLevel, api.MaxLevel), api.ErrNone
		for now := range w.levels {
			s, e := tide.Says(w.gauge, tick, now)
			if last == api.ErrDown && e != api.ErrDown || last == api.OK && e == api.ErrNone || e == api.OK && !inside(s, before) {
				t.Fatalf("%+v at %d: %v, %d, then %v, %d", w.gauge, tick, before, last, s, e)
			}
			if last = e; e == api.OK {
				before = s
			}
		}
		if last == api.ErrDown {
			downs++
		}
	}
	if downs < 10 || downs > 290 {
		t.Errorf("%d of 300 gauges contradict themselves: too much alike", downs)
	}
}

// fit returns the shifts of a datum that the definition leaves, tried one after the other.
func fit(g api.TdGauge, datum, from int, levels []api.Span) (s api.Span, found bool) {
	shift := g.Datums[datum].Shift
	for x := shift.Lo; x <= shift.Hi; x++ {
		can := true
		for _, r := range g.Readings {
			of := 0
			for i, d := range g.Datums {
				if d.From <= r.Tick {
					of = i
				}
			}
			if i := r.Tick - from; of == datum && i >= 0 && i < len(levels) {
				// With the shift x and an error, the level was from Value - Error - x to Value + Error - x.
				can = can && r.Value-g.Error-x <= levels[i].Hi && r.Value+g.Error-x >= levels[i].Lo
			}
		}
		if can && !found {
			s, found = sp(x, x), true
		}
		if can {
			s.Hi = x
		}
	}
	return s, found
}

// P1.7, P1.14: the shift is in what Fit returns; with more readings, or narrower spans, this is not wider.
func TestP1_14Fit(t *testing.T) {
	r := rand.New(rand.NewSource(14))
	for range 60 {
		w := anyWorld(r, 40)
		start, n := r.Intn(20), r.Intn(20)
		var narrow, wide []api.Span
		for _, x := range w.levels[start : start+n] {
			s := sp(max(x-r.Intn(20), api.MinLevel), min(x+r.Intn(20), api.MaxLevel))
			narrow = append(narrow, s)
			wide = append(wide, sp(max(s.Lo-r.Intn(9), api.MinLevel), min(s.Hi+r.Intn(9), api.MaxLevel)))
		}
		fewer := copyGauge(w.gauge)
		fewer.Readings = slices.DeleteFunc(fewer.Readings, func(api.TdReading) bool { return r.Intn(3) == 0 })
		for d, shift := range w.shifts {
			s, e := tide.Fit(w.gauge, d, start, narrow)
			if want, _ := fit(w.gauge, d, start, narrow); e != api.OK || !has(s, shift) || s != want {
				t.Fatalf("%+v, datum %d from %d: %v, %d; not %v, with %d", w.gauge, d, start, s, e, want, shift)
			}
			a, e1 := tide.Fit(w.gauge, d, start, wide)
			b, e2 := tide.Fit(fewer, d, start, narrow)
			if e1 != api.OK || e2 != api.OK || !inside(s, a) || !inside(s, b) {
				t.Fatalf("%+v, datum %d from %d: %v is not in %v and %v", w.gauge, d, start, s, a, b)
			}
		}
	}
}

// P1.7: with readings that are wrong, too, Fit returns what is left, or ErrDown.
func TestP1_7Wrong(t *testing.T) {
	r := rand.New(rand.NewSource(7))
	downs := 0
	for range 200 {
		w := anyWorld(r, 30)
		for i := range w.gauge.Readings {
			w.gauge.Readings[i].Value = min(max(w.gauge.Readings[i].Value+from(r, -40, 40), -30000), 30000)
		}
		var levels []api.Span
		for _, x := range w.levels {
			levels = append(levels, sp(x, x))
		}
		d := r.Intn(len(w.shifts))
		s, e := tide.Fit(w.gauge, d, 0, levels)
		want, found := fit(w.gauge, d, 0, levels)
		if s != want || found != (e == api.OK) || !found && e != api.ErrDown {
			t.Fatalf("%+v, datum %d: %v, %d; not %v", w.gauge, d, s, e, want)
		}
		if !found {
			downs++
		}
	}
	if downs < 10 || downs > 190 {
		t.Errorf("%d of 200 have no fit: too much alike", downs)
	}
}
