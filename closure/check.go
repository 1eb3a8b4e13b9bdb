package closure

import (
	"slices"

	"barrage/api"
	"barrage/basin"
)

// basinError returns the error of the basin of a task; at is always 0.
func basinError(t api.ClTask) (at int, e api.Errno) {
	_, _, e = basin.Check(t.Basin)
	return 0, e
}

// historiesError returns the first history with an error, and this; at is 0 if it is an error of all of them.
func historiesError(t api.ClTask) (at int, e api.Errno) {
	l := t.Histories
	if !between(len(l), 1, api.MaxClHistories) || !between(len(l[0].Values), 1, api.MaxClTicks) {
		return 0, api.ErrLong
	}
	for i, h := range l {
		if e := historyError(h, l[0]); e != api.OK {
			return i, e
		}
	}
	return 0, api.OK
}

// historyError returns the error of a history; its ticks have to be those of the first one.
func historyError(h, first api.Series) api.Errno {
	noLevel := func(x int) bool { return !between(x, api.MinLevel, api.MaxLevel) }
	switch {
	case h.From != first.From || len(h.Values) != len(first.Values):
		return api.ErrArg
	case !between(h.From, 0, api.MaxTick+1-len(h.Values)) || slices.ContainsFunc(h.Values, noLevel):
		return api.ErrRange
	}
	return api.OK
}

// riverError returns the error of what the rivers bring in a task; at is always 0.
func riverError(t api.ClTask) (at int, e api.Errno) {
	noFlow := func(x int) bool { return !isFlow(x) }
	switch {
	case len(t.River) != len(t.Histories[0].Values):
		return 0, api.ErrArg
	case slices.ContainsFunc(t.River, noFlow):
		return 0, api.ErrRange
	}
	return 0, api.OK
}

// numbersError returns the error of how much is filled in a task, or of its other numbers; at is always 0.
func numbersError(t api.ClTask) (at int, e api.Errno) {
	if len(t.Filled) != len(t.Basin.Polders) {
		return 0, api.ErrArg
	}
	for i, p := range t.Basin.Polders {
		if !between(t.Filled[i], 0, p.Room) {
			return 0, api.ErrRange
		}
	}
	if !isFlow(t.Out) || !between(t.Limit, t.Basin.Rows[0].Level, api.MaxLevel) || !between(t.Delay, 0, api.MaxClDelay) {
		return 0, api.ErrRange
	}
	return 0, api.OK
}

// areRules reports whether rules are as they have to be.
func areRules(r api.ClRules) bool {
	return between(r.Count, 1, api.MaxClHistories) && between(r.Early, 0, api.MaxClTicks)
}

// isFlow reports whether x can come or run off in a tick.
func isFlow(x int) bool { return between(x, 0, api.MaxFlow) }

// between reports whether x is from lo to hi.
func between(x, lo, hi int) bool { return lo <= x && x <= hi }
