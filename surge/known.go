package surge

import (
	"barrage/api"
	"barrage/tide"
)

// known is a task, and what is known of it at a tick.
type known struct {
	api.SgTask
	base  spans
	tubes [][]spans // of each centre: those of the members of its current forecast, if it has one
}

// knownAt returns what is known of a task at a tick; the error of the task, or of the tick.
func knownAt(t api.SgTask, now int) (known, api.Errno) {
	if e := errorOf(t, now); e != api.OK {
		return known{}, e
	}
	levels := tides(t)
	k := known{SgTask: t, base: base(t, levels, now), tubes: make([][]spans, len(t.Centres))}
	for i := range t.Centres {
		f := current(t, i, now)
		if f < 0 {
			continue
		}
		for m := range t.Forecasts[f].Members {
			k.tubes[i] = append(k.tubes[i], tube(t, levels, f, m))
		}
	}
	return k, api.OK
}

// current returns the index of the forecast of a centre that counts at a tick (-1: none).
func current(t api.SgTask, centre, now int) int {
	last := -1
	for i, f := range t.Forecasts {
		if f.Centre != centre || f.Issued+t.Centres[centre].Late > now {
			continue
		}
		if last < 0 || f.Issued > t.Forecasts[last].Issued {
			last = i
		}
	}
	return last
}

// wrongBy returns the error of a forecast at a tick.
func wrongBy(t api.SgTask, forecast, tick int) int {
	f := t.Forecasts[forecast]
	c := t.Centres[f.Centre]
	hours := (max(0, tick-f.Issued) + api.Hour - 1) / api.Hour
	return c.Base + c.Growth*hours
}

// tides returns the level of the tide at each tick of a task without errors.
func tides(t api.SgTask) spans {
	l, _ := tide.Levels(t.Table, t.From, t.Ticks)
	return l
}

// allLevels returns the span of all levels.
func allLevels() api.Span { return api.Span{Lo: api.MinLevel, Hi: api.MaxLevel} }

// base returns the base at each tick of a task with these tides, by what is known at a tick.
func base(t api.SgTask, tides spans, now int) spans {
	s := make(spans, len(tides))
	said := make(spans, len(tides))
	for i, x := range tides {
		s[i] = api.Span{Lo: x.Lo + t.Least, Hi: x.Hi + t.Most}
		said[i] = heard(t, t.From+i, now)
	}
	s.meet(said)
	return s
}

// heard returns to which levels the gauges restrict the level at a tick, by what is known at another one: all levels, if they restrict nothing.
func heard(t api.SgTask, tick, now int) api.Span {
	// The task has no errors: either there are no gauges, or enough of them agree on no level. Both restrict nothing.
	s, e := tide.Sound(t.Gauges, t.Wrong, tick, now)
	if e != api.OK {
		return allLevels()
	}
	return s
}

// tube returns the tube of a member at each tick of a task with these tides.
func tube(t api.SgTask, tides spans, forecast, member int) spans {
	f := t.Forecasts[forecast]
	values := f.Members[member]
	s := make(spans, len(tides))
	for i, x := range tides {
		s[i] = allLevels()
		if at := t.From + i - f.From; between(at, 0, len(values)-1) {
			by := wrongBy(t, forecast, t.From+i)
			s[i] = api.Span{Lo: x.Lo + values[at] - by, Hi: x.Hi + values[at] + by}
		}
	}
	return s
}

// needed returns how many centres have to be right for a history that is possible.
func (k known) needed() int {
	many := 0
	for _, tubes := range k.tubes {
		if len(tubes) > 0 {
			many++
		}
	}
	return min(k.Quorum, many)
}

// right returns, for each centre, whether it is right for a history.
func (k known) right(values []int) []bool {
	out := make([]bool, len(k.Centres))
	for i, tubes := range k.tubes {
		for _, tube := range tubes {
			out[i] = out[i] || tube.hold(values)
		}
	}
	return out
}

// possible reports whether a history is possible.
func (k known) possible(values []int) bool {
	many := 0
	for _, yes := range k.right(values) {
		if yes {
			many++
		}
	}
	return many >= k.needed() && k.base.hold(values) && steady(values, k.Rate)
}

// steady reports whether two neighbouring values differ by at most rate.
func steady(values []int, rate int) bool {
	for i := 1; i < len(values); i++ {
		if !between(values[i]-values[i-1], -rate, rate) {
			return false
		}
	}
	return true
}

// history returns the history of the task with these levels.
func (k known) history(values []int) api.Series { return api.Series{From: k.From, Values: values} }
