package surge_test

import (
	"fmt"
	"math"
	"math/rand"
	"reflect"
	"slices"
	"testing"

	"barrage/api"
	"barrage/surge"
)

// sp returns a span.
func sp(lo, hi int) api.Span { return api.Span{Lo: lo, Hi: hi} }

// at returns a history from the tick 100 on.
func at(values ...int) api.Series { return api.Series{From: 100, Values: values} }

// box returns a box of histories from the tick 100 on.
func box(members, low, high []int) api.SgBox {
	return api.SgBox{Members: members, Low: at(low...), High: at(high...)}
}

// ints returns a list of numbers.
func ints(l ...int) []int { return l }

// same reports whether two results are equal; a nil list and an empty one are, wherever they are in them.
func same(a, b any) bool { return fmt.Sprint(a) == fmt.Sprint(b) }

// wild are numbers far beyond all limits, and some at them.
func wild() []int {
	return []int{math.MinInt, math.MinInt + 1, math.MinInt32, -1, math.MaxInt32, math.MaxInt - 1, math.MaxInt}
}

// coast returns the task T of the chapter's examples.
func coast() api.SgTask {
	return api.SgTask{
		From: 100, Ticks: 3, Least: -500, Most: 4000, Rate: 800, Quorum: 1,
		Centres: []api.SgCentre{{Name: "met", Late: 2, Base: 100, Growth: 50}, {Name: "ocean", Late: 5, Base: 200}},
		Forecasts: []api.SgForecast{
			{Centre: 0, Issued: 88, From: 100, Members: [][]int{{1000, 1500, 2000}, {500, 700, 900}}},
			{Centre: 1, Issued: 90, From: 101, Members: [][]int{{2500, 2600}}},
			{Centre: 0, Issued: 94, From: 100, Members: [][]int{{1200, 1800, 2600}}},
		},
	}
}

// calm returns a task of three ticks from 100 on, whose tide is 0, without gauges, with so many centres that are never late and never wrong.
func calm(centres int) api.SgTask {
	t := api.SgTask{From: 100, Ticks: 3, Least: -1000, Most: 1000, Rate: 100}
	for i := range centres {
		t.Centres = append(t.Centres, api.SgCentre{Name: label(i)})
	}
	return t
}

// says adds a forecast of a centre to a task: issued at the tick 0, from the tick 100 on.
func says(t *api.SgTask, centre int, members ...[]int) {
	t.Forecasts = append(t.Forecasts, api.SgForecast{Centre: centre, From: 100, Members: members})
}

// moon returns a table of tides whose levels are spans of 20 mm and more.
func moon() api.TdTable {
	return api.TdTable{Mean: 100, Consts: []api.TdConst{
		{Name: "moon", Heights: []int{0, 1000, 0, -1000}, Step: 2, Den: 37, Slack: 10},
	}}
}

// gauge returns a gauge that says at a tick that the level is a value, by at most 10 more or less, and changes by at most 5.
func gauge(name string, tick, value int) api.TdGauge {
	return api.TdGauge{Name: name, Error: 10, Rate: 5, Datums: []api.TdDatum{{}}, Readings: []api.TdReading{{Tick: tick, Value: value}}}
}

// label returns the name of the gauge, centre or constituent with an index.
func label(i int) string { return "n" + string(rune('a'+i)) }

// copyTask returns a task that shares no memory with t.
func copyTask(t api.SgTask) api.SgTask {
	t.Table.Consts = slices.Clone(t.Table.Consts)
	for i := range t.Table.Consts {
		t.Table.Consts[i].Heights = slices.Clone(t.Table.Consts[i].Heights)
	}
	t.Gauges = slices.Clone(t.Gauges)
	for i := range t.Gauges {
		t.Gauges[i].Datums = slices.Clone(t.Gauges[i].Datums)
		t.Gauges[i].Readings = slices.Clone(t.Gauges[i].Readings)
	}
	t.Centres = slices.Clone(t.Centres)
	t.Forecasts = slices.Clone(t.Forecasts)
	for i := range t.Forecasts {
		t.Forecasts[i].Members = slices.Clone(t.Forecasts[i].Members)
		for j, m := range t.Forecasts[i].Members {
			t.Forecasts[i].Members[j] = slices.Clone(m)
		}
	}
	return t
}

// from returns a number from lo to hi, often one of both.
func from(r *rand.Rand, lo, hi int) int {
	switch r.Intn(6) {
	case 0:
		return lo
	case 1:
		return hi
	}
	return lo + r.Intn(hi-lo+1)
}

// anyTable returns a table of tides of small numbers.
func anyTable(r *rand.Rand) api.TdTable {
	t := api.TdTable{Mean: from(r, -1, 1)}
	if r.Intn(3) == 0 {
		t.Mean = from(r, 0, 1)*(api.MaxLevel-api.MinLevel) + api.MinLevel
	}
	for i := range r.Intn(2) {
		c := api.TdConst{Name: label(i), Den: from(r, 1, 3), Step: from(r, 1, 5), Slack: r.Intn(2)}
		for range from(r, 2, 4) {
			c.Heights = append(c.Heights, from(r, -1, 1))
		}
		t.Consts = append(t.Consts, c)
	}
	return t
}

// anyTask returns a task without errors whose numbers are so small that all its histories can be gone through; about the ticks from 15 on.
func anyTask(r *rand.Rand) api.SgTask {
	t := api.SgTask{
		Table: anyTable(r), From: 15, Ticks: from(r, 1, 4),
		Least: from(r, -2, 0), Most: from(r, 0, 2), Rate: from(r, 1, 3),
	}
	for i := range from(r, 0, 4) {
		t.Centres = append(t.Centres, api.SgCentre{Name: label(i), Late: r.Intn(6), Base: r.Intn(2), Growth: r.Intn(2)})
	}
	t.Quorum = r.Intn(len(t.Centres) + 1)
	for range r.Intn(9) {
		addForecast(r, &t)
	}
	for i := range max(0, from(r, -3, 3)) {
		t.Gauges = append(t.Gauges, anyGauge(r, label(i), t.Table.Mean))
	}
	t.Wrong = r.Intn(max(1, len(t.Gauges)))
	return t
}

// addForecast adds a forecast to a task, unless there is one of the same centre and tick.
func addForecast(r *rand.Rand, t *api.SgTask) {
	if len(t.Centres) == 0 {
		return
	}
	f := api.SgForecast{Centre: r.Intn(len(t.Centres)), Issued: from(r, 8, 20), From: from(r, 12, 17)}
	if slices.ContainsFunc(t.Forecasts, func(o api.SgForecast) bool { return o.Centre == f.Centre && o.Issued == f.Issued }) {
		return
	}
	n := from(r, 1, 6)
	for range from(r, 1, api.MaxSgMembers) {
		var m []int
		for range n {
			m = append(m, from(r, -2, 2))
		}
		f.Members = append(f.Members, m)
	}
	t.Forecasts = append(t.Forecasts, f)
}

// anyGauge returns a gauge of small numbers that reads levels near a mean one.
func anyGauge(r *rand.Rand, name string, mean int) api.TdGauge {
	g := api.TdGauge{Name: name, Error: r.Intn(3), Rate: r.Intn(3), Datums: []api.TdDatum{{}}}
	if r.Intn(2) == 0 {
		g.Datums[0].Shift = sp(-1, r.Intn(2))
	}
	for tick := 10; tick < 20; tick++ {
		if r.Intn(3) == 0 {
			g.Readings = append(g.Readings, api.TdReading{Tick: tick, Value: mean + from(r, -2, 2)})
		}
	}
	return g
}

// result is what a function returned, and by which name.
type result struct {
	name  string
	value any
	e     api.Errno
}

// all calls all functions but Check: each with the tick now, where it has one.
func all(t api.SgTask, now, then, forecast, member int, s api.Series) []result {
	var out []result
	put := func(name string, value any, e api.Errno) { out = append(out, result{name, value, e}) }
	current, e := surge.Current(t, now)
	put("Current", current, e)
	by, e := surge.Error(t, forecast, now)
	put("Error", by, e)
	base, e := surge.Base(t, now)
	put("Base", base, e)
	tube, e := surge.Tube(t, forecast, member)
	put("Tube", tube, e)
	boxes, e := surge.Boxes(t, now)
	put("Boxes", boxes, e)
	possible, e := surge.Possible(t, now)
	put("Possible", possible, e)
	low, high, e := surge.Envelope(t, now)
	put("Envelope", []api.Series{low, high}, e)
	peak, e := surge.Peak(t, now)
	put("Peak", peak, e)
	right, e := surge.Right(t, now, s)
	put("Right", right, e)
	is, e := surge.Is(t, now, s)
	put("Is", is, e)
	ruled, e := surge.Ruled(t, then, now)
	put("Ruled", ruled, e)
	suspects, e := surge.Suspects(t, now)
	put("Suspects", suspects, e)
	return out
}

// isZero reports whether there is nothing in what a function returned.
func isZero(x result) bool {
	if x.name == "Envelope" {
		return reflect.DeepEqual(x.value, make([]api.Series, 2))
	}
	v := reflect.ValueOf(x.value)
	return v.IsZero() || v.Kind() == reflect.Slice && v.Len() == 0
}

// need stops a test if a task that has to be right has an error.
func need(t *testing.T, x api.SgTask) {
	t.Helper()
	if part, at, e := surge.Check(x); part != 0 || at != 0 || e != api.OK {
		t.Fatalf("%+v: %d, %d, %d", x, part, at, e)
	}
}
