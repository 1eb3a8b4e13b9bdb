package ship_test

import (
	"slices"
	"testing"

	"barrage/api"
	"barrage/ship"
)

// full returns a port without errors that has two of all, and three ships.
func full() api.ShPort {
	p := estuary()
	p.Openings[0].Shut = shut(20, 40, 50, 50)
	p.Openings = append(p.Openings, api.ShOpening{Name: "side", Width: 100, Sill: -5000, Shut: shut(1, 2, 3, 4)})
	return p
}

// badAsk is arguments of which none is right.
func badAsk() asked {
	return asked{ship: -1, opening: -1, tick: -1, order: ints(-1), plan: moves(-2, -2, -2), after: moves(-2, -2, -2)}
}

// fails tests where a port has its error, and that all functions return it, and nothing else.
func fails(t *testing.T, what any, p api.ShPort, part, at int, e api.Errno) {
	t.Helper()
	if n, a, f := ship.Check(p); n != part || a != at || f != e {
		t.Errorf("%v: %d, %d, %d; not %d, %d, %d", what, n, a, f, part, at, e)
	}
	if e == api.OK {
		return
	}
	for _, y := range every(p, badAsk()) {
		if y.e != e || !isZero(y) {
			t.Errorf("%v: %s: %v, %d; not %d", what, y.name, y.value, y.e, e)
		}
	}
}

// P6.1: the errors of a port come in their order: repaired one by one, each time the next one is told.
func TestP6_1Order(t *testing.T) {
	good := full()
	p := full()
	p.Openings = make([]api.ShOpening, 4)
	p.Anchors = make([]api.ShAnchor, 5)
	p.Ships = make([]api.ShShip, 6)
	p.Levels.Values, p.Keel = nil, -1
	bad := api.ShOpening{Width: -1, Shut: shut(2, 1, 0, 0, 0, 0, 0, 0, 0, 0)}
	for i, s := range []struct {
		repair   func()
		part, at int
		e        api.Errno
	}{
		{func() {}, 1, 0, api.ErrLong},
		{func() { p.Openings = []api.ShOpening{good.Openings[0], bad} }, 1, 0, api.ErrLong},
		{func() { p.Anchors = []api.ShAnchor{good.Anchors[0], {Room: -1}} }, 1, 0, api.ErrLong},
		{func() { p.Ships = []api.ShShip{good.Ships[0], {}, {}} }, 2, 1, api.ErrForm},
		{func() { p.Openings[1].Name = "main" }, 2, 1, api.ErrTwice},
		{func() { p.Openings[1].Name = "side" }, 2, 1, api.ErrRange},
		{func() { p.Openings[1].Width, p.Openings[1].Sill = 0, -20001 }, 2, 1, api.ErrRange},
		{func() { p.Openings[1].Sill = 0 }, 2, 1, api.ErrLong},
		{func() { p.Openings[1].Shut = shut(2, 1) }, 2, 1, api.ErrRange},
		{func() { p.Openings[1].Shut = shut(1, 2, -1, 2) }, 2, 1, api.ErrRange},
		{func() { p.Openings[1].Shut = shut(1, 2) }, 3, 1, api.ErrForm},
		{func() { p.Anchors[1].Name = "road" }, 3, 1, api.ErrTwice},
		{func() { p.Anchors[1].Name = "main" }, 3, 1, api.ErrRange},
		{func() { p.Anchors[1].Room, p.Anchors[1].Turn = 0, 5001 }, 3, 1, api.ErrRange},
		{func() { p.Anchors[1].Turn = 0 }, 4, 1, api.ErrForm},
		{func() { p.Ships[1].Name = "bulk" }, 4, 1, api.ErrTwice},
		{func() { p.Ships[1].Name = "main" }, 4, 1, api.ErrRange},
		{func() { p.Ships[1] = good.Ships[1] }, 4, 2, api.ErrForm},
		{func() { p.Ships[2] = good.Ships[2] }, 5, 0, api.ErrLong},
		{func() { p.Levels.Values = ints(0, 20001) }, 5, 0, api.ErrRange},
		{func() { p.Levels.Values = ints(0) }, 5, 0, api.ErrRange},
		{func() { p.Keel = 0 }, 0, 0, api.OK},
	} {
		s.repair()
		fails(t, i, p, s.part, s.at, s.e)
	}
}

// limit is where a number of a port is, and in which limits it has to be.
type limit struct {
	where    func(p *api.ShPort) *int
	lo, hi   int
	part, at int
}

// limits returns all numbers of a port, but for those of its spans.
func limits() map[string]limit {
	return map[string]limit{
		"Width":       {func(p *api.ShPort) *int { return &p.Openings[0].Width }, 0, 5000, 2, 0},
		"other Width": {func(p *api.ShPort) *int { return &p.Openings[1].Width }, 0, 5000, 2, 1},
		"Sill":        {func(p *api.ShPort) *int { return &p.Openings[1].Sill }, -20000, 20000, 2, 1},
		"Room":        {func(p *api.ShPort) *int { return &p.Anchors[0].Room }, 0, 5000, 3, 0},
		"Turn":        {func(p *api.ShPort) *int { return &p.Anchors[1].Turn }, 0, 5000, 3, 1},
		"Length":      {func(p *api.ShPort) *int { return &p.Ships[0].Length }, 1, 500, 4, 0},
		"Beam":        {func(p *api.ShPort) *int { return &p.Ships[1].Beam }, 0, 5000, 4, 1},
		"Draught":     {func(p *api.ShPort) *int { return &p.Ships[2].Draught }, 0, 25000, 4, 2},
		"Ready":       {func(p *api.ShPort) *int { return &p.Ships[0].Ready }, 0, 200000, 4, 0},
		"Pass":        {func(p *api.ShPort) *int { return &p.Ships[1].Pass }, 1, 50, 4, 1},
		"Until":       {func(p *api.ShPort) *int { return &p.Ships[2].Until }, -1, 200000, 4, 2},
		"Value":       {func(p *api.ShPort) *int { return &p.Ships[0].Value }, 0, 1000, 4, 0},
		"first level": {func(p *api.ShPort) *int { return &p.Levels.Values[0] }, -20000, 20000, 5, 0},
		"last level":  {func(p *api.ShPort) *int { return &p.Levels.Values[59] }, -20000, 20000, 5, 0},
		"From":        {func(p *api.ShPort) *int { return &p.Levels.From }, 0, 199941, 5, 0},
		"Keel":        {func(p *api.ShPort) *int { return &p.Keel }, 0, 25000, 5, 0},
		"Follow":      {func(p *api.ShPort) *int { return &p.Follow }, 0, 50, 5, 0},
		"Gap":         {func(p *api.ShPort) *int { return &p.Gap }, 0, 50, 5, 0},
		"Margin":      {func(p *api.ShPort) *int { return &p.Margin }, 0, 50, 5, 0},
	}
}

// P6.1: each number of a port, at both of its limits and beyond them.
func TestP6_1Limits(t *testing.T) {
	for what, l := range limits() {
		for _, n := range append(wild(), l.lo-1, l.lo, l.lo+1, l.hi-1, l.hi, l.hi+1) {
			p := full()
			*l.where(&p) = n
			if l.lo <= n && n <= l.hi {
				fails(t, what, p, 0, 0, api.OK)
			} else {
				fails(t, what, p, l.part, l.at, api.ErrRange)
			}
		}
	}
}

// P6.1: the spans of an opening are from a tick to one that is not before it.
func TestP6_1Spans(t *testing.T) {
	l := append(wild(), -1, 0, 1, 2, 199999, 200000, 200001)
	for _, first := range l {
		for _, until := range l {
			p := full()
			p.Openings[1].Shut[1] = api.ShSpan{From: first, Until: until}
			if 0 <= first && first <= until && until <= 200000 {
				fails(t, p.Openings, p, 0, 0, api.OK)
			} else {
				fails(t, p.Openings, p, 2, 1, api.ErrRange)
			}
		}
	}
}

// P6.1: how many openings, spans, anchorages, ships and levels there may be.
func TestP6_1Long(t *testing.T) {
	long := func(n, lo, hi int, p api.ShPort, part int) {
		t.Helper()
		if lo <= n && n <= hi {
			fails(t, n, p, 0, 0, api.OK)
		} else {
			fails(t, n, p, part, 0, api.ErrLong)
		}
	}
	for n := range 150 {
		p := full()
		p.Openings = slices.Repeat(p.Openings[:1], n)
		for i := range p.Openings {
			p.Openings[i].Name = label(i % 20)
		}
		long(n, 1, 3, p, 1)
		p = full()
		p.Anchors = slices.Repeat(p.Anchors[:1], n)
		for i := range p.Anchors {
			p.Anchors[i].Name = label(i % 20)
		}
		long(n, 0, 4, p, 1)
		p = full()
		p.Ships = slices.Repeat(p.Ships[:1], n)
		for i := range p.Ships {
			p.Ships[i].Name = label(i % 20)
		}
		long(n, 0, 5, p, 1)
		p = full()
		p.Openings[0].Shut = slices.Repeat(shut(1, 2), n)
		long(n, 0, 4, p, 2)
		p = full()
		p.Levels.Values = make([]int, n)
		long(n, 1, 144, p, 5)
	}
}

// P6.1: the levels of a port are all at ticks.
func TestP6_1Ticks(t *testing.T) {
	for _, n := range ints(1, 2, 144) {
		for _, at := range append(wild(), -1, 0, 1, 200000-n, 200001-n, 200002-n, 200000, 200001) {
			p := full()
			p.Levels = api.Series{From: at, Values: make([]int, n)}
			if 0 <= at && at <= 200001-n {
				fails(t, at, p, 0, 0, api.OK)
			} else {
				fails(t, at, p, 5, 0, api.ErrRange)
			}
		}
	}
}

// P6.1: names are names, and each is there once, but for one of another kind.
func TestP6_1Names(t *testing.T) {
	for _, where := range []struct {
		part, at int
		name     func(p *api.ShPort) *string
	}{
		{2, 0, func(p *api.ShPort) *string { return &p.Openings[0].Name }},
		{2, 1, func(p *api.ShPort) *string { return &p.Openings[1].Name }},
		{3, 0, func(p *api.ShPort) *string { return &p.Anchors[0].Name }},
		{3, 1, func(p *api.ShPort) *string { return &p.Anchors[1].Name }},
		{4, 0, func(p *api.ShPort) *string { return &p.Ships[0].Name }},
		{4, 2, func(p *api.ShPort) *string { return &p.Ships[2].Name }},
	} {
		for name, right := range map[string]bool{"": false, "a": true, "a-1": true, "1a": false, "A": false, "a b": false, "abcdefghijklmnopqrstuvwx": true, "abcdefghijklmnopqrstuvwxy": false, "side": where.part != 2 || where.at == 1, "pool": where.part != 3 || where.at == 1, "ferry": where.part != 4} {
			p := full()
			*where.name(&p) = name
			switch {
			case right:
				fails(t, name, p, 0, 0, api.OK)
			case name == "side" || name == "pool" || name == "ferry": // the first one has the name, too
				fails(t, name, p, where.part, max(where.at, 1), api.ErrTwice)
			default:
				fails(t, name, p, where.part, where.at, api.ErrForm)
			}
		}
	}
	// The first one with an error decides, not the worst error.
	p := full()
	p.Ships[1].Value, p.Ships[2].Name = -1, ""
	fails(t, "two", p, 4, 1, api.ErrRange)
	p.Ships[1].Value, p.Ships[2].Name, p.Ships[2].Value = 0, "bulk", -1
	fails(t, "a name twice", p, 4, 2, api.ErrTwice)
}

// formed tests whether a plan is well formed: as an error of all functions with a plan, before all other errors.
func formed(t *testing.T, p api.ShPort, plan []api.ShPassage, right bool) {
	t.Helper()
	need(t, p)
	x := badAsk()
	x.plan, x.after = plan, plan
	for _, y := range withPlan(p, x) {
		if (y.e != api.ErrArg) != right || y.e != api.OK && !isZero(y) {
			t.Errorf("%v: %s: %v, %d", plan, y.name, y.value, y.e)
		}
	}
	x.plan = moves(-1, -1, -1, -1, -1, -1, -1, -1, -1)[:len(p.Ships)]
	if l, e := ship.Turned(p, x.plan, plan); (e == api.OK) != right || len(l) > 0 || e != api.OK && e != api.ErrArg {
		t.Errorf("after %v: %v, %d", plan, l, e)
	}
	if l, e := ship.Turned(p, plan, x.plan); (e == api.OK) != right || e != api.OK && (e != api.ErrArg || len(l) > 0) {
		t.Errorf("before %v: %v, %d", plan, l, e)
	}
}

// P6.3, P6.5, P6.6: which plans are well formed.
func TestP6_3Formed(t *testing.T) {
	p := full()
	rest := moves(-1, -1, -1, 0, 0, -1)
	l := append(wild(), -2, -1, 0, 1, 2, 9, 10, 11, 12, 200000, 200001)
	for _, opening := range l {
		for _, start := range l {
			for _, anchor := range l {
				through := (opening == 0 || opening == 1) && 0 <= start && start <= 200000 && (start <= 10 && anchor == -1 || start > 10 && (anchor == 0 || anchor == 1))
				back := opening == -1 && start == -1 && -1 <= anchor && anchor <= 1
				formed(t, p, append(moves(opening, start, anchor), rest...), through || back)
				// The last ship is ready at 15, so that it is not held until 11 or 12.
				through = (opening == 0 || opening == 1) && 0 <= start && start <= 200000 && (start <= 15 && anchor == -1 || start > 15 && (anchor == 0 || anchor == 1))
				formed(t, p, append(slices.Clone(rest), moves(opening, start, anchor)...), through || back)
			}
		}
	}
	for n := range 5 {
		formed(t, p, slices.Repeat(moves(0, 0, -1), n), n == 3)
	}
	p.Ships = nil
	formed(t, p, nil, true)
	formed(t, p, moves(-1, -1, -1), false)
}
