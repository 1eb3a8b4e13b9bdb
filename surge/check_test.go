package surge_test

import (
	"slices"
	"testing"

	"barrage/api"
	"barrage/surge"
)

// fails tests that a task has an error, and that all functions return it, and nothing else.
func fails(t *testing.T, what any, x api.SgTask, part, at int, e api.Errno) {
	t.Helper()
	if p, a, f := surge.Check(x); p != part || a != at || f != e {
		t.Errorf("%v: %d, %d, %d; not %d, %d, %d", what, p, a, f, part, at, e)
	}
	if e == api.OK {
		return
	}
	for _, y := range all(x, -1, 200001, -1, -1, api.Series{}) {
		if y.e != e || !isZero(y) {
			t.Errorf("%v: %s: %v, %d", what, y.name, y.value, y.e)
		}
	}
}

// P2.1: the order of errors; all of them are there at first, and are taken away one after the other.
func TestP2_1Order(t *testing.T) {
	x := api.SgTask{
		Table: api.TdTable{Mean: 20001, Consts: make([]api.TdConst, 13)}, From: 200000, Ticks: 97,
		Gauges: make([]api.TdGauge, 9), Wrong: -1,
		Centres: make([]api.SgCentre, 5), Forecasts: make([]api.SgForecast, 13),
		Least: 1, Most: -1, Rate: 0, Quorum: 6,
	}
	f := func() *api.SgForecast { return &x.Forecasts[1] }
	for i, s := range []struct {
		repair   func()
		part, at int
		e        api.Errno
	}{
		{func() {}, 1, 0, api.ErrRange},
		{func() { x.Ticks = 2; x.Table.Mean = 0 }, 1, 0, api.ErrLong},
		{func() { x.Table = moon(); x.Table.Consts[0].Name = "" }, 1, 0, api.ErrForm},
		{func() { x.Table = moon() }, 1, 0, api.ErrRange},
		{func() { x.From = 199999 }, 2, 0, api.ErrLong},
		{func() { x.Gauges = []api.TdGauge{gauge("pier", 9, 0), gauge("", 9, 0), gauge("pier", 9, 0)} }, 2, 1, api.ErrForm},
		{func() { x.Gauges[1] = gauge("pier", 200001, 0) }, 2, 1, api.ErrRange},
		{func() { x.Gauges[1] = gauge("pier", 9, 0) }, 2, 1, api.ErrTwice},
		{func() { x.Gauges[1].Name = "lock" }, 2, 2, api.ErrTwice},
		{func() { x.Gauges[2].Name = "weir" }, 2, 0, api.ErrRange},
		{func() { x.Wrong = 2 }, 3, 0, api.ErrLong},
		{func() { x.Centres = make([]api.SgCentre, 3) }, 3, 0, api.ErrLong},
		{func() { x.Forecasts = make([]api.SgForecast, 3) }, 3, 0, api.ErrRange},
		{func() { x.Least = 0 }, 3, 0, api.ErrRange},
		{func() { x.Most = 0 }, 3, 0, api.ErrRange},
		{func() { x.Rate = 1 }, 3, 0, api.ErrRange},
		{func() { x.Quorum = 3 }, 4, 0, api.ErrForm},
		{func() { x.Centres[0].Name, x.Centres[1] = "met", api.SgCentre{Name: "met", Late: -1} }, 4, 1, api.ErrTwice},
		{func() { x.Centres[1].Name = "ocean" }, 4, 1, api.ErrRange},
		{func() { x.Centres[1].Late = 0 }, 4, 2, api.ErrForm},
		{func() { x.Centres[2].Name = "met" }, 4, 2, api.ErrTwice},
		{func() { x.Centres[2].Name = "sky" }, 5, 0, api.ErrLong},
		{func() { x.Forecasts[0] = api.SgForecast{Centre: 2, Issued: 5, From: 9, Members: [][]int{{1}}} }, 5, 1, api.ErrLong},
		{func() { *f() = api.SgForecast{Centre: 3, Issued: -1, From: -1, Members: make([][]int, 5)} }, 5, 1, api.ErrNone},
		{func() { f().Centre = 2 }, 5, 1, api.ErrRange},
		{func() { f().Issued = 5 }, 5, 1, api.ErrRange},
		{func() { f().From = 10 }, 5, 1, api.ErrLong},
		{func() { f().Members = [][]int{{10001}, {0, 0}, make([]int, 201)} }, 5, 1, api.ErrLong},
		{func() { f().Members[2] = nil }, 5, 1, api.ErrLong},
		{func() { f().Members[2] = []int{1, 10001} }, 5, 1, api.ErrArg},
		{func() { f().Members[0] = []int{1, 1} }, 5, 1, api.ErrRange},
		{func() { f().Members[2] = []int{1, 1} }, 5, 1, api.ErrTwice},
		{func() { f().Issued = 6 }, 5, 2, api.ErrLong},
		{func() { x.Forecasts[2] = api.SgForecast{Centre: 2, Issued: 5, Members: [][]int{{1}}} }, 5, 2, api.ErrTwice},
		{func() { x.Forecasts[2].Centre = 1 }, 0, 0, api.OK},
	} {
		s.repair()
		fails(t, i, x, s.part, s.at, s.e)
	}
}

// P2.1: each number of a task, at both of its limits and beyond them.
func TestP2_1Limits(t *testing.T) {
	for what, l := range map[string]struct {
		set      func(x *api.SgTask, n int)
		lo, hi   int
		part, at int
		e        api.Errno
	}{
		"Ticks":       {func(x *api.SgTask, n int) { x.Ticks = n }, 1, 96, 1, 0, api.ErrRange},
		"From":        {func(x *api.SgTask, n int) { x.From = n }, 0, 199998, 1, 0, api.ErrRange},
		"Mean":        {func(x *api.SgTask, n int) { x.Table.Mean = n }, -20000, 20000, 1, 0, api.ErrRange},
		"gauge's":     {func(x *api.SgTask, n int) { x.Gauges[1].Error = n }, 0, 5000, 2, 1, api.ErrRange},
		"Wrong":       {func(x *api.SgTask, n int) { x.Wrong = n }, 0, 1, 2, 0, api.ErrRange},
		"Wrong of 1":  {func(x *api.SgTask, n int) { x.Gauges = x.Gauges[:1]; x.Wrong = n }, 0, 0, 2, 0, api.ErrRange},
		"Wrong of 0":  {func(x *api.SgTask, n int) { x.Gauges = nil; x.Wrong = n }, 0, 0, 2, 0, api.ErrRange},
		"Least":       {func(x *api.SgTask, n int) { x.Least = n }, -10000, 0, 3, 0, api.ErrRange},
		"Most":        {func(x *api.SgTask, n int) { x.Most = n }, 0, 10000, 3, 0, api.ErrRange},
		"Rate":        {func(x *api.SgTask, n int) { x.Rate = n }, 1, 5000, 3, 0, api.ErrRange},
		"Quorum":      {func(x *api.SgTask, n int) { x.Quorum = n }, 0, 2, 3, 0, api.ErrRange},
		"Quorum of 0": {func(x *api.SgTask, n int) { x.Centres, x.Forecasts, x.Quorum = nil, nil, n }, 0, 0, 3, 0, api.ErrRange},
		"Late":        {func(x *api.SgTask, n int) { x.Centres[1].Late = n }, 0, 1000, 4, 1, api.ErrRange},
		"Base":        {func(x *api.SgTask, n int) { x.Centres[1].Base = n }, 0, 5000, 4, 1, api.ErrRange},
		"Growth":      {func(x *api.SgTask, n int) { x.Centres[1].Growth = n }, 0, 1000, 4, 1, api.ErrRange},
		"Centre":      {func(x *api.SgTask, n int) { x.Forecasts[2].Centre = n }, 0, 1, 5, 2, api.ErrNone},
		"Issued":      {func(x *api.SgTask, n int) { x.Forecasts[2].Issued = n }, 0, 200000, 5, 2, api.ErrRange},
		"its From":    {func(x *api.SgTask, n int) { x.Forecasts[2].From = n }, 0, 200000, 5, 2, api.ErrRange},
		"first value": {func(x *api.SgTask, n int) { x.Forecasts[0].Members[0][0] = n }, -10000, 10000, 5, 0, api.ErrRange},
		"last value":  {func(x *api.SgTask, n int) { x.Forecasts[0].Members[1][2] = n }, -10000, 10000, 5, 0, api.ErrRange},
	} {
		for _, n := range append(wild(), l.lo-1, l.lo, l.lo+1, l.hi-1, l.hi, l.hi+1) {
			x := coast()
			x.Gauges = []api.TdGauge{gauge("pier", 9, 0), gauge("lock", 9, 0)}
			l.set(&x, n)
			if l.lo <= n && n <= l.hi {
				fails(t, what, x, 0, 0, api.OK)
			} else {
				fails(t, what, x, l.part, l.at, l.e)
			}
		}
	}
}

// P2.1: how many there may be of something.
func TestP2_1Long(t *testing.T) {
	members := func(n, values int) [][]int {
		var l [][]int
		for range n {
			l = append(l, make([]int, values))
		}
		return l
	}
	for what, l := range map[string]struct {
		set      func(x *api.SgTask, n int)
		lo, hi   int
		part, at int
	}{
		"Gauges": {func(x *api.SgTask, n int) {
			for i := range n {
				x.Gauges = append(x.Gauges, gauge(label(i), 9, 0))
			}
		}, 0, 8, 2, 0},
		"Centres": {func(x *api.SgTask, n int) {
			x.Forecasts, x.Centres, x.Quorum = nil, nil, 0
			for i := range n {
				x.Centres = append(x.Centres, api.SgCentre{Name: label(i)})
			}
		}, 0, 4, 3, 0},
		"Forecasts": {func(x *api.SgTask, n int) {
			x.Forecasts = nil
			for i := range n {
				x.Forecasts = append(x.Forecasts, api.SgForecast{Issued: i, Members: members(1, 1)})
			}
		}, 0, 12, 3, 0},
		"Members":     {func(x *api.SgTask, n int) { x.Forecasts[1].Members = members(n, 2) }, 1, 4, 5, 1},
		"values":      {func(x *api.SgTask, n int) { x.Forecasts[1].Members = members(1, n) }, 1, 200, 5, 1},
		"more values": {func(x *api.SgTask, n int) { x.Forecasts[1].Members = members(4, n) }, 1, 200, 5, 1},
	} {
		for _, n := range []int{0, 1, 2, l.hi - 1, l.hi, l.hi + 1, 300} {
			x := coast()
			l.set(&x, n)
			if l.lo <= n && n <= l.hi {
				fails(t, what, x, 0, 0, api.OK)
			} else {
				fails(t, what, x, l.part, l.at, api.ErrLong)
			}
		}
	}
}

// P2.1: what a task may have, and what it may not have.
func TestP2_1Tasks(t *testing.T) {
	for what, c := range map[string]struct {
		set      func(x *api.SgTask)
		part, at int
		e        api.Errno
	}{
		"as it is":                    {func(x *api.SgTask) {}, 0, 0, api.OK},
		"nothing":                     {func(x *api.SgTask) { *x = api.SgTask{} }, 1, 0, api.ErrRange},
		"next to nothing":             {func(x *api.SgTask) { *x = api.SgTask{Ticks: 1, Rate: 1} }, 0, 0, api.OK},
		"too many ticks at the end":   {func(x *api.SgTask) { x.From = 199999 }, 1, 0, api.ErrRange},
		"a constituent twice":         {func(x *api.SgTask) { x.Table.Consts = slices.Repeat(moon().Consts, 2) }, 1, 0, api.ErrTwice},
		"a gauge without datums":      {func(x *api.SgTask) { x.Gauges = []api.TdGauge{gauge("a", 9, 0), {Name: "b"}} }, 2, 1, api.ErrLong},
		"a centre's name":             {func(x *api.SgTask) { x.Centres[1].Name = "Ocean" }, 4, 1, api.ErrForm},
		"a centre twice":              {func(x *api.SgTask) { x.Centres[1].Name = "met" }, 4, 1, api.ErrTwice},
		"a gauge like a centre":       {func(x *api.SgTask) { x.Gauges = []api.TdGauge{gauge("met", 9, 0)} }, 0, 0, api.OK},
		"a forecast twice":            {func(x *api.SgTask) { x.Forecasts[2].Issued = 88 }, 5, 2, api.ErrTwice},
		"others at the same tick":     {func(x *api.SgTask) { x.Forecasts[1].Issued = 88 }, 0, 0, api.OK},
		"a forecast of what was":      {func(x *api.SgTask) { x.Forecasts[1].From = 0 }, 0, 0, api.OK},
		"a forecast beyond all ticks": {func(x *api.SgTask) { x.Forecasts[1].From = 200000 }, 0, 0, api.OK},
		"a member shorter":            {func(x *api.SgTask) { x.Forecasts[0].Members[1] = []int{1, 2} }, 5, 0, api.ErrArg},
		"a member longer":             {func(x *api.SgTask) { x.Forecasts[0].Members[1] = []int{1, 2, 3, 4} }, 5, 0, api.ErrArg},
		"two of them with errors":     {func(x *api.SgTask) { x.Forecasts[0].Members[1] = nil; x.Forecasts[1].Centre = 2 }, 5, 0, api.ErrLong},
	} {
		x := coast()
		c.set(&x)
		fails(t, what, x, c.part, c.at, c.e)
	}
}

// P2: ticks that are none, behind the errors of the task, and before all else.
func TestP2Ticks(t *testing.T) {
	x := coast()
	for _, n := range append(wild(), 0, 96, 200000, 200001) {
		right := 0 <= n && n <= 200000
		for _, y := range all(x, n, 96, -1, -1, api.Series{}) {
			if isRange := y.e == api.ErrRange; isRange != (!right && y.name != "Tube") || y.e != api.OK && !isZero(y) {
				t.Errorf("%s at %d: %v, %d", y.name, n, y.value, y.e)
			}
		}
		if l, e := surge.Ruled(x, n, 96); (e == api.ErrRange) == right || !right && len(l) > 0 {
			t.Errorf("Ruled of %d: %v, %d", n, l, e)
		}
		if l, e := surge.Ruled(x, n, -1); e != api.ErrRange || len(l) > 0 {
			t.Errorf("Ruled of %d and -1: %v, %d", n, l, e)
		}
	}
}
