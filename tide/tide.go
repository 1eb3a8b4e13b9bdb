// Package tide is layer 1: tables of tides, gauges, and the level that follows from several gauges of which some are wrong.
package tide

import (
	"slices"

	"barrage/api"
)

// Name reports whether a string is a name.
func Name(s string) bool {
	if !between(len(s), 1, api.MaxName) || !isLetter(s[0]) {
		return false
	}
	for i := 1; i < len(s); i++ {
		if !isLetter(s[i]) && !isDigit(s[i]) && s[i] != '-' {
			return false
		}
	}
	return true
}

func isLetter(b byte) bool { return 'a' <= b && b <= 'z' }

func isDigit(b byte) bool { return '0' <= b && b <= '9' }

// Check returns the index of the first constituent with an error (-1: the table itself), and the error.
func Check(t api.TdTable) (at int, e api.Errno) {
	f := tableFault(t)
	return f.at, f.e
}

// Level returns the level of the tide at a tick.
func Level(t api.TdTable, tick int) (api.Span, api.Errno) {
	f := first(
		func() fault { return tableFault(t) },
		func() fault { return need(isTick(tick), api.ErrRange) },
	)
	if f.e != api.OK {
		return api.Span{}, f.e
	}
	return tides(t, tick, 1)[0].Span, api.OK
}

// Levels returns the levels of the tide at n ticks from a tick on.
func Levels(t api.TdTable, from, n int) ([]api.Span, api.Errno) {
	f := first(
		func() fault { return tableFault(t) },
		func() fault { return need(between(n, 0, api.MaxTdTicks), api.ErrLong) },
		func() fault { return need(areTicks(from, n), api.ErrRange) },
	)
	if f.e != api.OK || n == 0 {
		return nil, f.e
	}
	out := make([]api.Span, n)
	for i, s := range tides(t, from, n) {
		out[i] = s.Span
	}
	return out, api.OK
}

// High returns those of n ticks from a tick on at which the tide can be highest.
func High(t api.TdTable, from, n int) ([]int, api.Errno) {
	l, e := Levels(t, from, n)
	if e != api.OK || n == 0 {
		return nil, e
	}
	top := l[0].Lo
	for _, s := range l {
		top = max(top, s.Lo)
	}
	var out []int
	for i, s := range l {
		if s.Hi >= top {
			out = append(out, from+i)
		}
	}
	return out, api.OK
}

// Period returns after how many ticks a table begins again.
func Period(t api.TdTable) (int, api.Errno) {
	if f := tableFault(t); f.e != api.OK {
		return 0, f.e
	}
	n := 1
	for _, c := range t.Consts {
		m := ticksOf(c)
		n *= m / common(n, m)
		if n > api.MaxTdPeriod {
			return 0, api.ErrLong
		}
	}
	return n, api.OK
}

// CheckGauge returns the part, the index in it and the error of a gauge.
func CheckGauge(g api.TdGauge) (part, at int, e api.Errno) {
	f := gaugeFault(g)
	return f.part, f.at, f.e
}

// Says returns what a gauge says of the level at a tick, by the readings up to another one.
func Says(g api.TdGauge, tick, now int) (api.Span, api.Errno) {
	f := first(
		func() fault { return gaugeFault(g) },
		func() fault { return need(isTick(tick) && isTick(now), api.ErrRange) },
	)
	if f.e != api.OK {
		return api.Span{}, f.e
	}
	s, e := said(g, tick, now)
	return s.Span, e
}

// Sound returns the level at a tick, if at most so many gauges are wrong.
func Sound(l []api.TdGauge, wrong, tick, now int) (api.Span, api.Errno) {
	f := first(
		func() fault { return gaugesFault(l, tick, now) },
		func() fault { return need(between(wrong, 0, len(l)-1), api.ErrRange) },
	)
	if f.e != api.OK {
		return api.Span{}, f.e
	}
	// A gauge that does not speak is counted here: it is one of those that agree with no level.
	s, found := around(endsOf(speaking(l, tick, now)).agreed(len(l) - wrong))
	if !found {
		return api.Span{}, api.ErrDown
	}
	return s.Span, api.OK
}

// Agree returns how many gauges agree on a level at a tick at most, and which do not.
func Agree(l []api.TdGauge, tick, now int) (many int, others []int, e api.Errno) {
	if f := gaugesFault(l, tick, now); f.e != api.OK {
		return 0, nil, f.e
	}
	voices := speaking(l, tick, now)
	all := endsOf(voices)
	many = all.most()
	agrees := make([]bool, len(l))
	for v := range voices {
		agrees[v.gauge] = v.meets(all.agreed(many))
	}
	for i, yes := range agrees {
		if !yes {
			others = append(others, i)
		}
	}
	return many, others, api.OK
}

// Residual returns by how much the level is above the tide.
func Residual(t api.TdTable, l []api.TdGauge, wrong, tick, now int) (api.Span, api.Errno) {
	if f := tableFault(t); f.e != api.OK {
		return api.Span{}, f.e
	}
	s, e := Sound(l, wrong, tick, now)
	if e != api.OK {
		return api.Span{}, e
	}
	return span{s}.less(tides(t, tick, 1)[0]).Span, api.OK
}

// Fit returns which shifts a datum of a gauge can have, if the levels at the ticks from a tick on are known.
func Fit(g api.TdGauge, datum, from int, levels []api.Span) (api.Span, api.Errno) {
	noLevels := func(s api.Span) bool { return !span{s}.within(api.MinLevel, api.MaxLevel) }
	f := first(
		func() fault { return gaugeFault(g) },
		func() fault { return need(between(datum, 0, len(g.Datums)-1), api.ErrNone) },
		func() fault { return need(len(levels) <= api.MaxTdTicks, api.ErrLong) },
		func() fault { return need(areTicks(from, len(levels)), api.ErrRange) },
		func() fault { return need(!slices.ContainsFunc(levels, noLevels), api.ErrArg) },
	)
	if f.e != api.OK {
		return api.Span{}, f.e
	}
	s := fitted(g, datum, from, levels)
	if s.empty() {
		return api.Span{}, api.ErrDown
	}
	return s.Span, api.OK
}

// fitted returns the part of the shift of a datum that the readings at known levels leave.
func fitted(g api.TdGauge, datum, from int, levels []api.Span) span {
	s := span{g.Datums[datum].Shift}
	for _, r := range g.Readings {
		i := r.Tick - from
		if between(i, 0, len(levels)-1) && datumAt(g, r.Tick) == datum {
			s = s.meet(exact(g, r).less(span{levels[i]}))
		}
	}
	return s
}
