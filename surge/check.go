package surge

import (
	"slices"

	"barrage/api"
	"barrage/tide"
)

// errorOf returns the error of a task, or of a tick that is asked about.
func errorOf(t api.SgTask, tick int) api.Errno {
	if _, _, e := Check(t); e != api.OK {
		return e
	}
	if !isTick(tick) {
		return api.ErrRange
	}
	return api.OK
}

// ticksError returns the error of the ticks of a task, or of its tide; at is always 0.
func ticksError(t api.SgTask) (at int, e api.Errno) {
	if !between(t.Ticks, 1, api.MaxSgTicks) {
		return 0, api.ErrRange
	}
	_, e = tide.Levels(t.Table, t.From, t.Ticks)
	return 0, e
}

// gaugesError returns the first gauge with an error, and this; at is 0 if it is an error of all of them.
func gaugesError(t api.SgTask) (at int, e api.Errno) {
	if len(t.Gauges) > api.MaxTdGauges {
		return 0, api.ErrLong
	}
	at, e = firstError(len(t.Gauges), func(i int) api.Errno { return gaugeError(t.Gauges, i) })
	if e != api.OK {
		return at, e
	}
	if !between(t.Wrong, 0, max(0, len(t.Gauges)-1)) {
		return 0, api.ErrRange
	}
	return 0, api.OK
}

// gaugeError returns the error of a gauge.
func gaugeError(l []api.TdGauge, i int) api.Errno {
	if _, _, e := tide.CheckGauge(l[i]); e != api.OK {
		return e
	}
	if slices.ContainsFunc(l[:i], func(o api.TdGauge) bool { return o.Name == l[i].Name }) {
		return api.ErrTwice
	}
	return api.OK
}

// numbersError returns the error of how many centres and forecasts there are, or of the numbers of a task; at is always 0.
func numbersError(t api.SgTask) (at int, e api.Errno) {
	switch {
	case len(t.Centres) > api.MaxSgCentres || len(t.Forecasts) > api.MaxSgForecasts:
		return 0, api.ErrLong
	case !between(t.Least, -api.MaxSgSurge, 0) || !between(t.Most, 0, api.MaxSgSurge):
		return 0, api.ErrRange
	case !between(t.Rate, 1, api.MaxTdRate) || !between(t.Quorum, 0, len(t.Centres)):
		return 0, api.ErrRange
	}
	return 0, api.OK
}

// centresError returns the first centre with an error, and this.
func centresError(t api.SgTask) (at int, e api.Errno) {
	return firstError(len(t.Centres), func(i int) api.Errno { return centreError(t.Centres, i) })
}

// centreError returns the error of a centre.
func centreError(l []api.SgCentre, i int) api.Errno {
	c := l[i]
	switch {
	case !tide.Name(c.Name):
		return api.ErrForm
	case slices.ContainsFunc(l[:i], func(o api.SgCentre) bool { return o.Name == c.Name }):
		return api.ErrTwice
	case !between(c.Late, 0, api.MaxSgLate) || !between(c.Base, 0, api.MaxSgError) || !between(c.Growth, 0, api.MaxSgGrowth):
		return api.ErrRange
	}
	return api.OK
}

// forecastsError returns the first forecast with an error, and this.
func forecastsError(t api.SgTask) (at int, e api.Errno) {
	return firstError(len(t.Forecasts), func(i int) api.Errno { return forecastError(t, i) })
}

// forecastError returns the error of a forecast.
func forecastError(t api.SgTask, i int) api.Errno {
	f := t.Forecasts[i]
	tooLong := func(m []int) bool { return !between(len(m), 1, api.MaxSgValues) }
	another := func(m []int) bool { return len(m) != len(f.Members[0]) }
	noSurge := func(x int) bool { return !between(x, -api.MaxSgSurge, api.MaxSgSurge) }
	switch {
	case !between(f.Centre, 0, len(t.Centres)-1):
		return api.ErrNone
	case !isTick(f.Issued) || !isTick(f.From):
		return api.ErrRange
	case !between(len(f.Members), 1, api.MaxSgMembers) || slices.ContainsFunc(f.Members, tooLong):
		return api.ErrLong
	case slices.ContainsFunc(f.Members, another):
		return api.ErrArg
	case slices.ContainsFunc(f.Members, func(m []int) bool { return slices.ContainsFunc(m, noSurge) }):
		return api.ErrRange
	case slices.ContainsFunc(t.Forecasts[:i], func(o api.SgForecast) bool { return o.Centre == f.Centre && o.Issued == f.Issued }):
		return api.ErrTwice
	}
	return api.OK
}

// firstError returns the first number from 0 on and before n for which there is an error, and this.
func firstError(n int, errorAt func(i int) api.Errno) (at int, e api.Errno) {
	for i := range n {
		if e := errorAt(i); e != api.OK {
			return i, e
		}
	}
	return 0, api.OK
}

// isForecast reports whether x is the index of a forecast.
func isForecast(t api.SgTask, x int) bool { return between(x, 0, len(t.Forecasts)-1) }

// isHistory reports whether s is a history of the task, possible or not.
func isHistory(t api.SgTask, s api.Series) bool {
	noLevel := func(x int) bool { return !between(x, api.MinLevel, api.MaxLevel) }
	return s.From == t.From && len(s.Values) == t.Ticks && !slices.ContainsFunc(s.Values, noLevel)
}

// isTick reports whether x is a tick.
func isTick(x int) bool { return between(x, 0, api.MaxTick) }

// between reports whether x is from lo to hi.
func between(x, lo, hi int) bool { return lo <= x && x <= hi }
