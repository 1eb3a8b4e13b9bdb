package tide

import (
	"iter"
	"slices"

	"barrage/api"
)

// gaugeFault returns what is wrong with a gauge.
func gaugeFault(g api.TdGauge) fault {
	return first(
		func() fault { return need(Name(g.Name), api.ErrForm).in(1) },
		func() fault {
			right := between(g.Error, 0, api.MaxTdError) && between(g.Rate, 0, api.MaxTdRate)
			return need(right, api.ErrRange).in(1)
		},
		func() fault { return need(between(len(g.Datums), 1, api.MaxTdDatums), api.ErrLong).in(2) },
		func() fault {
			return each(len(g.Datums), func(i int) fault { return need(datumRight(g.Datums, i), api.ErrRange) }).in(2)
		},
		func() fault { return need(len(g.Readings) <= api.MaxTdReadings, api.ErrLong).in(3) },
		func() fault {
			return each(len(g.Readings), func(i int) fault { return need(readingRight(g.Readings, i), api.ErrRange) }).in(3)
		},
	)
}

// datumRight reports whether a datum is as stated.
func datumRight(l []api.TdDatum, i int) bool {
	d := l[i]
	if !(span{d.Shift}).within(-api.MaxTdError, api.MaxTdError) {
		return false
	}
	if i == 0 {
		return d.From == 0
	}
	return isTick(d.From) && d.From > l[i-1].From
}

// readingRight reports whether a reading is as stated.
func readingRight(l []api.TdReading, i int) bool {
	r := l[i]
	return isTick(r.Tick) && (i == 0 || r.Tick > l[i-1].Tick) && between(r.Value, -maxValue, maxValue)
}

// maxValue is the greatest size of what a gauge reads, in mm.
const maxValue = 30000

// datumAt returns the index of the datum of a reading at a tick.
func datumAt(g api.TdGauge, tick int) int {
	at := 0
	for i, d := range g.Datums {
		if d.From <= tick {
			at = i
		}
	}
	return at
}

// exact returns what the level and the shift of the datum are together, by a reading.
func exact(g api.TdGauge, r api.TdReading) span { return spanOf(r.Value, r.Value).wider(g.Error) }

// saidBy returns what a reading says of the level at its tick.
func saidBy(g api.TdGauge, r api.TdReading) span {
	return exact(g, r).less(span{g.Datums[datumAt(g, r.Tick)].Shift})
}

// said returns what a gauge says; ErrNone if this is nothing, ErrDown if it contradicts itself.
func said(g api.TdGauge, tick, now int) (span, api.Errno) {
	s, known := allLevels(), false
	for _, r := range g.Readings {
		if r.Tick <= now {
			s, known = s.meet(saidBy(g, r).wider(g.Rate*distance(r.Tick, tick))), true
		}
	}
	switch {
	case !known:
		return span{}, api.ErrNone
	case s.empty():
		return span{}, api.ErrDown
	}
	return s, api.OK
}

// distance returns how many ticks are between two.
func distance(a, b int) int { return max(a-b, b-a) }

// voice is what a gauge says, and the index of the gauge.
type voice struct {
	span
	gauge int
}

// speaking yields what gauges say, but for those that say nothing or contradict themselves.
func speaking(l []api.TdGauge, tick, now int) iter.Seq[voice] {
	return func(yield func(voice) bool) {
		for i, g := range l {
			if s, e := said(g, tick, now); e == api.OK && !yield(voice{s, i}) {
				return
			}
		}
	}
}

// gaugesFault returns what is wrong with gauges that are asked together, or with the ticks that they are asked for.
func gaugesFault(l []api.TdGauge, tick, now int) fault {
	return first(
		func() fault { return need(len(l) <= api.MaxTdGauges, api.ErrLong) },
		func() fault { return each(len(l), func(i int) fault { return gaugeFault(l[i]) }) },
		func() fault { return need(!sameNames(l), api.ErrTwice) },
		func() fault { return need(isTick(tick) && isTick(now), api.ErrRange) },
	)
}

// sameNames reports whether two gauges have the same name.
func sameNames(l []api.TdGauge) bool {
	for i, g := range l {
		if slices.ContainsFunc(l[:i], func(o api.TdGauge) bool { return o.Name == g.Name }) {
			return true
		}
	}
	return false
}
