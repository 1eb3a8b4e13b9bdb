package gate_test

import (
	"slices"
	"strings"
	"testing"

	"barrage/api"
	"barrage/gate"
)

// badAsk is arguments of which none is right.
func badAsk() asked {
	return asked{
		state: api.GtState{Pos: -1, Charge: -1}, step: api.GtStep{Order: 3, Outer: 20001}, steps: make([]api.GtStep, 2001),
		pos: -1, outer: 20001, inner: 20001, readings: make([]int, 9),
	}
}

// fails tests that a gate has an error, and that all functions return it, and nothing else.
func fails(t *testing.T, what any, g api.GtGate, part, at int, e api.Errno) {
	t.Helper()
	if p, a, f := gate.Check(g); p != part || a != at || f != e {
		t.Errorf("%v: %d, %d, %d; not %d, %d, %d", what, p, a, f, part, at, e)
	}
	if e == api.OK {
		return
	}
	for _, on := range []bool{false, true} {
		x := badAsk()
		x.on = on
		for _, y := range single(g, x) {
			if y.e != e || !isZero(y) {
				t.Errorf("%v: %s: %v, %d", what, y.name, y.value, y.e)
			}
		}
	}
	failsSet(t, what, api.GtSet{Gates: []api.GtGate{east(), g}}, 1, 1, e)
}

// failsSet tests that a set has an error, and that all functions return it, and nothing else.
func failsSet(t *testing.T, what any, l api.GtSet, part, at int, e api.Errno) {
	t.Helper()
	if p, a, f := gate.CheckSet(l); p != part || a != at || f != e {
		t.Errorf("%v: CheckSet %d, %d, %d; not %d, %d, %d", what, p, a, f, part, at, e)
	}
	if e == api.OK {
		return
	}
	for _, y := range joint(l, asked{outer: 20001, states: []api.GtState{{Pos: -1}}}) {
		if y.e != e || !isZero(y) {
			t.Errorf("%v: %s: %v, %d", what, y.name, y.value, y.e)
		}
	}
}

// P3.1: the order of errors; all of them are there at first, and are taken away one after the other.
func TestP3_1Order(t *testing.T) {
	g := api.GtGate{
		Kind: 4, Open: -20001, Shut: 20001, Float: -1, Push: -10001, Slide: -1, Seal: -1, Drive: -1, Brake: -1,
		Use: -1, Pump: -1, Capacity: -1, Slack: -1, Sensors: make([]api.GtSensor, 7), Wrong: -1,
	}
	for i, s := range []struct {
		repair   func()
		part, at int
		e        api.Errno
	}{
		{func() {}, 1, 0, api.ErrForm},
		{func() { g.Name = "lock" }, 1, 0, api.ErrArg},
		{func() { g.Kind = api.GtFlap }, 1, 0, api.ErrRange},
		{func() { g.Travel = 100 }, 2, 0, api.ErrLong},
		{func() { g.Own = ints(-1, 200001, 1, -200001) }, 2, 1, api.ErrRange},
		{func() { g.Own[1] = 5 }, 2, 1, api.ErrArg},
		{func() { g.Own[1] = 0 }, 2, 2, api.ErrArg},
		{func() { g.Own[2] = -3 }, 2, 3, api.ErrRange},
		{func() { g.Own[3] = -200000 }, 3, 0, api.ErrRange},
		{func() { g.Open, g.Shut, g.Height, g.Float, g.Push, g.Slide = 0, 0, 1, 0, 0, 0 }, 3, 0, api.ErrRange},
		{func() { g.Seal, g.Drive, g.Brake, g.Speed, g.Gravity = 0, 0, 0, 1, 1 }, 3, 0, api.ErrRange},
		{func() { g.Use, g.Pump, g.Capacity = 0, 0, 0 }, 3, 0, api.ErrRange},
		{func() { g.Slack = 49 }, 4, 0, api.ErrLong},
		{func() { g.Sensors = []api.GtSensor{encoder(1), {Kind: 1, At: -1, Tol: -1}, {}} }, 4, 1, api.ErrArg},
		{func() { g.Sensors[1].At = 0 }, 4, 1, api.ErrRange},
		{func() { g.Sensors[1].Tol = 0 }, 4, 2, api.ErrArg},
		{func() { g.Sensors[2] = switchAt(-1, -1) }, 4, 2, api.ErrRange},
		{func() { g.Sensors[2].At = 5000 }, 4, 2, api.ErrRange},
		{func() { g.Sensors[2].Tol = 5000 }, 4, 0, api.ErrRange},
		{func() { g.Wrong = 3 }, 0, 0, api.OK},
	} {
		s.repair()
		fails(t, i, g, s.part, s.at, s.e)
	}
}

// P3.1: each number of a gate, at both of its limits and beyond them.
func TestP3_1Limits(t *testing.T) {
	for what, l := range map[string]struct {
		set      func(g *api.GtGate, n int)
		lo, hi   int
		part, at int
		e        api.Errno
	}{
		"Kind":       {func(g *api.GtGate, n int) { g.Kind, g.Own = n, ints(0, 0) }, 1, 3, 1, 0, api.ErrArg},
		"Travel":     {func(g *api.GtGate, n int) { g.Travel, g.Slack = n, 0 }, 1, 5000, 1, 0, api.ErrRange},
		"first Own":  {func(g *api.GtGate, n int) { g.Own[0] = n }, 0, 200000, 2, 0, 0},
		"last Own":   {func(g *api.GtGate, n int) { g.Own[1] = n }, 0, 200000, 2, 1, 0},
		"flap's Own": {func(g *api.GtGate, n int) { g.Kind, g.Own = 3, ints(0, n, 0) }, -200000, 0, 2, 1, 0},
		"sector's":   {func(g *api.GtGate, n int) { g.Kind, g.Own = 1, ints(0, 0, n) }, 0, 0, 2, 2, 0},
		"Open":       {func(g *api.GtGate, n int) { g.Open = n }, -20000, 20000, 3, 0, api.ErrRange},
		"Shut":       {func(g *api.GtGate, n int) { g.Shut = n }, -20000, 20000, 3, 0, api.ErrRange},
		"Height":     {func(g *api.GtGate, n int) { g.Height = n }, 1, 30000, 3, 0, api.ErrRange},
		"Float":      {func(g *api.GtGate, n int) { g.Float = n }, 0, 10000, 3, 0, api.ErrRange},
		"Push":       {func(g *api.GtGate, n int) { g.Push = n }, -10000, 10000, 3, 0, api.ErrRange},
		"Slide":      {func(g *api.GtGate, n int) { g.Slide = n }, 0, 10000, 3, 0, api.ErrRange},
		"Seal":       {func(g *api.GtGate, n int) { g.Seal = n }, 0, 200000, 3, 0, api.ErrRange},
		"Drive":      {func(g *api.GtGate, n int) { g.Drive = n }, 0, 200000, 3, 0, api.ErrRange},
		"Brake":      {func(g *api.GtGate, n int) { g.Brake = n }, 0, 200000, 3, 0, api.ErrRange},
		"Speed":      {func(g *api.GtGate, n int) { g.Speed = n }, 1, 100, 3, 0, api.ErrRange},
		"Gravity":    {func(g *api.GtGate, n int) { g.Gravity = n }, 1, 100, 3, 0, api.ErrRange},
		"Use":        {func(g *api.GtGate, n int) { g.Use = n }, 0, 100000, 3, 0, api.ErrRange},
		"Pump":       {func(g *api.GtGate, n int) { g.Pump = n }, 0, 100000, 3, 0, api.ErrRange},
		"Capacity":   {func(g *api.GtGate, n int) { g.Capacity = n }, 0, 100000, 3, 0, api.ErrRange},
		"Slack":      {func(g *api.GtGate, n int) { g.Slack = n }, 0, 499, 3, 0, api.ErrRange},
		"Slack, 1":   {func(g *api.GtGate, n int) { g.Travel, g.Slack = 1, n }, 0, 0, 3, 0, api.ErrRange},
		"Slack, 2":   {func(g *api.GtGate, n int) { g.Travel, g.Slack = 2, n }, 0, 0, 3, 0, api.ErrRange},
		"Slack, odd": {func(g *api.GtGate, n int) { g.Travel, g.Slack = 101, n }, 0, 50, 3, 0, api.ErrRange},
		"a kind":     {func(g *api.GtGate, n int) { g.Sensors[2] = api.GtSensor{Kind: n} }, 1, 2, 4, 2, api.ErrArg},
		"encoder At": {func(g *api.GtGate, n int) { g.Sensors[1].At = n }, 0, 0, 4, 1, api.ErrArg},
		"its Tol":    {func(g *api.GtGate, n int) { g.Sensors[1].Tol = n }, 0, 5000, 4, 1, api.ErrRange},
		"switch At":  {func(g *api.GtGate, n int) { g.Sensors[2].At = n }, 0, 5000, 4, 2, api.ErrRange},
		"switch Tol": {func(g *api.GtGate, n int) { g.Sensors[2].Tol = n }, 0, 5000, 4, 2, api.ErrRange},
		"Wrong":      {func(g *api.GtGate, n int) { g.Wrong = n }, 0, 3, 4, 0, api.ErrRange},
		"Wrong of 0": {func(g *api.GtGate, n int) { g.Sensors, g.Wrong = nil, n }, 0, 0, 4, 0, api.ErrRange},
	} {
		for _, n := range append(wild(), l.lo-1, l.lo, l.lo+1, l.hi-1, l.hi, l.hi+1) {
			g := east()
			l.set(&g, n)
			e := l.e
			if e == api.OK {
				// An own force that is not as the kind asks is another error than one that is none.
				e = api.ErrArg
				if n < -200000 || n > 200000 {
					e = api.ErrRange
				}
			}
			if l.lo <= n && n <= l.hi {
				fails(t, what, g, 0, 0, api.OK)
			} else {
				fails(t, what, g, l.part, l.at, e)
			}
		}
	}
}

// P3.1: how many there may be of something.
func TestP3_1Long(t *testing.T) {
	for n := range 40 {
		g := east()
		g.Own = slices.Repeat(ints(3), n)
		if 2 <= n && n <= 16 {
			fails(t, n, g, 0, 0, api.OK)
		} else {
			fails(t, n, g, 2, 0, api.ErrLong)
		}
		g = east()
		g.Sensors = slices.Repeat([]api.GtSensor{encoder(1)}, n)
		g.Wrong = n
		if n <= 6 {
			fails(t, n, g, 0, 0, api.OK)
		} else {
			fails(t, n, g, 4, 0, api.ErrLong)
		}
	}
}

// P3.1: what a gate may have, and what it may not have.
func TestP3_1Gates(t *testing.T) {
	for what, c := range map[string]struct {
		set      func(g *api.GtGate)
		part, at int
		e        api.Errno
	}{
		"as it is": {func(g *api.GtGate) {}, 0, 0, api.OK},
		"nothing":  {func(g *api.GtGate) { *g = api.GtGate{} }, 1, 0, api.ErrForm},
		"next to nothing": {func(g *api.GtGate) {
			*g = api.GtGate{Name: "a", Kind: 1, Travel: 1, Own: ints(0, 0), Height: 1, Speed: 1, Gravity: 1}
		}, 0, 0, api.OK},
		"a capital":              {func(g *api.GtGate) { g.Name = "East" }, 1, 0, api.ErrForm},
		"a long name":            {func(g *api.GtGate) { g.Name = strings.Repeat("a", 24) }, 0, 0, api.OK},
		"a name that is longer":  {func(g *api.GtGate) { g.Name = strings.Repeat("a", 25) }, 1, 0, api.ErrForm},
		"a lift that pulls":      {func(g *api.GtGate) { g.Own[1] = -1 }, 2, 1, api.ErrArg},
		"a flap that falls":      {func(g *api.GtGate) { g.Kind = api.GtFlap }, 2, 0, api.ErrArg},
		"a sector with a weight": {func(g *api.GtGate) { g.Kind = api.GtSector }, 2, 0, api.ErrArg},
		"a flap without weight":  {func(g *api.GtGate) { g.Kind, g.Own = api.GtFlap, ints(0, 0) }, 0, 0, api.OK},
		"an edge that rises":     {func(g *api.GtGate) { g.Open, g.Shut = -2000, 8000 }, 0, 0, api.OK},
		"a switch beyond it all": {func(g *api.GtGate) { g.Sensors[2].At = 5000 }, 0, 0, api.OK},
		"two errors":             {func(g *api.GtGate) { g.Sensors[0].Tol, g.Sensors[1].Kind = -1, 0 }, 4, 0, api.ErrRange},
	} {
		g := east()
		c.set(&g)
		fails(t, what, g, c.part, c.at, c.e)
	}
}

// P3.7: the order of errors; all of them are there at first, and are taken away one after the other.
func TestP3_7Order(t *testing.T) {
	l := api.GtSet{Gates: make([]api.GtGate, 7), Rules: make([]api.GtRule, 13)}
	for i, s := range []struct {
		repair   func()
		part, at int
		e        api.Errno
	}{
		{func() {}, 1, 0, api.ErrLong},
		{func() { l.Gates = nil }, 1, 0, api.ErrLong},
		{func() { l.Gates = []api.GtGate{east(), pushed(1), east(), {}} }, 1, 2, api.ErrTwice},
		{func() { l.Gates[1].Gravity = 0 }, 1, 1, api.ErrRange},
		{func() { l.Gates[1].Own = nil }, 1, 1, api.ErrLong},
		{func() { l.Gates[1] = east() }, 1, 1, api.ErrTwice},
		{func() { l.Gates[1].Wrong = 4 }, 1, 1, api.ErrRange},
		{func() { l.Gates[1] = pushed(1) }, 1, 2, api.ErrTwice},
		{func() { l.Gates[2].Name = "west" }, 1, 3, api.ErrForm},
		{func() { l.Gates[3] = pushed(1) }, 1, 3, api.ErrTwice},
		{func() { l.Gates[3].Name = "weir" }, 2, 0, api.ErrLong},
		{func() { l.Rules = []api.GtRule{{Gate: 0, Other: 3}, {Gate: 4, Other: 4, Lo: -1}, {Gate: -1}} }, 2, 1, api.ErrNone},
		{func() { l.Rules[1].Gate = 2 }, 2, 1, api.ErrNone},
		{func() { l.Rules[1].Other = 2 }, 2, 1, api.ErrArg},
		{func() { l.Rules[1].Other = 0 }, 2, 1, api.ErrRange},
		{func() { l.Rules[1].Lo = 5 }, 2, 1, api.ErrRange},
		{func() { l.Rules[1].Hi = 5 }, 2, 2, api.ErrNone},
		{func() { l.Rules[2].Gate = 0 }, 2, 2, api.ErrArg},
		{func() { l.Rules[2].Gate = 3 }, 0, 0, api.OK},
	} {
		s.repair()
		failsSet(t, i, l, s.part, s.at, s.e)
	}
}

// P3.7: each number of a rule, at both of its limits and beyond them.
func TestP3_7Limits(t *testing.T) {
	for what, l := range map[string]struct {
		set    func(x *api.GtRule, n int)
		lo, hi int
		e      api.Errno
	}{
		"Gate":  {func(x *api.GtRule, n int) { x.Gate, x.Other = n, 2 }, 0, 1, api.ErrNone},
		"Other": {func(x *api.GtRule, n int) { x.Gate, x.Other = 2, n }, 0, 1, api.ErrNone},
		"Lo":    {func(x *api.GtRule, n int) { x.Lo, x.Hi = n, 5000 }, 0, 5000, api.ErrRange},
		"Hi":    {func(x *api.GtRule, n int) { x.Lo, x.Hi = 0, n }, 0, 5000, api.ErrRange},
		"above": {func(x *api.GtRule, n int) { x.Lo, x.Hi = n, 70 }, 0, 70, api.ErrRange},
		"below": {func(x *api.GtRule, n int) { x.Lo, x.Hi = 70, n }, 70, 5000, api.ErrRange},
	} {
		for _, n := range append(wild(), l.lo-1, l.lo, l.lo+1, l.hi-1, l.hi, l.hi+1, 3) {
			x := setOf(east(), east(), east())
			x.Rules = []api.GtRule{{Gate: 0, Other: 1}, {Gate: 1, Other: 0}}
			l.set(&x.Rules[1], n)
			switch {
			case l.lo <= n && n <= l.hi:
				failsSet(t, what, x, 0, 0, api.OK)
			case l.e == api.ErrNone && n == 2:
				failsSet(t, what, x, 2, 1, api.ErrArg)
			default:
				failsSet(t, what, x, 2, 1, l.e)
			}
		}
	}
}

// P3.7: how many gates and rules there may be.
func TestP3_7Long(t *testing.T) {
	for n := range 30 {
		l := setOf(slices.Repeat([]api.GtGate{east()}, min(n, 26))...)
		if 1 <= n && n <= 6 {
			failsSet(t, n, l, 0, 0, api.OK)
		} else {
			failsSet(t, n, l, 1, 0, api.ErrLong)
		}
		l = setOf(east(), east())
		l.Rules = slices.Repeat([]api.GtRule{{Gate: 1}}, n)
		if n <= 12 {
			failsSet(t, n, l, 0, 0, api.OK)
		} else {
			failsSet(t, n, l, 2, 0, api.ErrLong)
		}
	}
}
