package tide_test

import (
	"math"
	"math/rand"
	"slices"

	"barrage/api"
)

// sp returns a span.
func sp(lo, hi int) api.Span { return api.Span{Lo: lo, Hi: hi} }

// wild are numbers far beyond all limits, and some at them.
func wild() []int {
	return []int{math.MinInt, math.MinInt + 1, math.MinInt32, -1, math.MaxInt32, math.MaxInt - 1, math.MaxInt}
}

// moon returns the table T of the chapter's examples.
func moon() api.TdTable {
	return api.TdTable{Mean: 100, Consts: []api.TdConst{
		{Name: "moon", Heights: []int{0, 1000, 0, -1000}, Step: 2, Den: 37, Slack: 10},
	}}
}

// pier returns the gauge G of the chapter's examples.
func pier() api.TdGauge {
	return api.TdGauge{
		Name: "pier", Error: 20, Rate: 50,
		Datums:   []api.TdDatum{{}, {From: 100, Shift: sp(30, 40)}},
		Readings: []api.TdReading{{Tick: 90, Value: 500}, {Tick: 110, Value: 640}},
	}
}

// saying returns a gauge that says at the tick 110 that the level is from lo to hi; lo and hi are both odd or both even.
func saying(name string, lo, hi int) api.TdGauge {
	return api.TdGauge{
		Name: name, Error: (hi - lo) / 2, Rate: 50,
		Datums:   []api.TdDatum{{}},
		Readings: []api.TdReading{{Tick: 110, Value: (hi + lo) / 2}},
	}
}

// mute returns a gauge without readings.
func mute(name string) api.TdGauge {
	return api.TdGauge{Name: name, Datums: []api.TdDatum{{}}}
}

// torn returns a gauge that contradicts itself from the tick 110 on.
func torn(name string) api.TdGauge {
	g := mute(name)
	g.Readings = []api.TdReading{{Tick: 109, Value: 0}, {Tick: 110, Value: 1}}
	return g
}

// label returns the name of the gauge, or constituent, with an index.
func label(i int) string { return "n" + string(rune('a'+i)) }

// copyTable returns a table that shares no memory with t.
func copyTable(t api.TdTable) api.TdTable {
	t.Consts = slices.Clone(t.Consts)
	for i := range t.Consts {
		t.Consts[i].Heights = slices.Clone(t.Consts[i].Heights)
	}
	return t
}

// copyGauge returns a gauge that shares no memory with g.
func copyGauge(g api.TdGauge) api.TdGauge {
	g.Datums = slices.Clone(g.Datums)
	g.Readings = slices.Clone(g.Readings)
	return g
}

// copyGauges returns gauges that share no memory with those of l.
func copyGauges(l []api.TdGauge) []api.TdGauge {
	out := slices.Clone(l)
	for i := range out {
		out[i] = copyGauge(out[i])
	}
	return out
}

// from returns a number from lo to hi, often one of both.
func from(r *rand.Rand, lo, hi int) int {
	switch r.Intn(6) {
	case 0:
		return lo
	case 1:
		return hi
	}
	return lo + r.Intn(hi-lo+1)
}

// anyTable returns a table without errors; den is the greatest Den.
func anyTable(r *rand.Rand, den int) api.TdTable {
	t := api.TdTable{Mean: from(r, api.MinLevel, api.MaxLevel)}
	for i := range r.Intn(4) {
		c := api.TdConst{Name: label(i), Den: from(r, 1, den), Step: from(r, 1, api.MaxTdStep), Slack: from(r, 0, api.MaxTdSlack)}
		for range from(r, 2, 7) {
			c.Heights = append(c.Heights, from(r, -api.MaxTdHeight, api.MaxTdHeight))
		}
		c.Offset = from(r, 0, c.Den*len(c.Heights)-1)
		t.Consts = append(t.Consts, c)
	}
	return t
}

// world is what happens: the level at each tick, and a gauge that reads it as its fields say.
type world struct {
	levels []int
	shifts []int // of each datum
	gauge  api.TdGauge
}

// anyWorld returns a world of some ticks: the level changes by at most the gauge's Rate.
func anyWorld(r *rand.Rand, ticks int) world {
	g := api.TdGauge{Name: "gauge", Error: from(r, 0, 100), Rate: from(r, 0, 60)}
	if r.Intn(4) == 0 {
		g.Error, g.Rate = api.MaxTdError, api.MaxTdRate
	}
	w := world{gauge: g}
	level := from(r, api.MinLevel, api.MaxLevel)
	for t := range ticks {
		w.levels = append(w.levels, level)
		level = min(max(level+from(r, -g.Rate, g.Rate), api.MinLevel), api.MaxLevel)
		if t == 0 || len(w.shifts) < api.MaxTdDatums && r.Intn(10) == 0 {
			lo := from(r, -api.MaxTdError, api.MaxTdError)
			shift := sp(lo, from(r, lo, api.MaxTdError))
			w.gauge.Datums = append(w.gauge.Datums, api.TdDatum{From: t, Shift: shift})
			w.shifts = append(w.shifts, from(r, shift.Lo, shift.Hi))
		}
		if len(w.gauge.Readings) < api.MaxTdReadings && r.Intn(3) == 0 {
			value := w.levels[t] + w.shifts[len(w.shifts)-1] + from(r, -g.Error, g.Error)
			w.gauge.Readings = append(w.gauge.Readings, api.TdReading{Tick: t, Value: value})
		}
	}
	return w
}

// has reports whether x is in a span.
func has(s api.Span, x int) bool { return s.Lo <= x && x <= s.Hi }

// inside reports whether a span is in another one.
func inside(s, in api.Span) bool { return in.Lo <= s.Lo && s.Hi <= in.Hi }
