package basin

import (
	"slices"

	"barrage/api"
	"barrage/tide"
)

// rowsError returns the first row with an error, and this; at is 0 if it is an error of all of them.
func rowsError(b api.BsBasin) (at int, e api.Errno) {
	if !between(len(b.Rows), 2, api.MaxBsRows) {
		return 0, api.ErrLong
	}
	for i := range b.Rows {
		if e := rowError(b.Rows, i); e != api.OK {
			return i, e
		}
	}
	return 0, api.OK
}

// rowError returns the error of a row.
func rowError(l []api.BsRow, i int) api.Errno {
	r := l[i]
	switch {
	case !isLevel(r.Level) || !between(r.Volume, 0, api.MaxVolume):
		return api.ErrRange
	case i > 0 && (r.Level <= l[i-1].Level || r.Volume <= l[i-1].Volume):
		return api.ErrArg
	}
	return api.OK
}

// ratesError returns the error of what comes through the barrier and over it; at is always 0.
func ratesError(b api.BsBasin) (at int, e api.Errno) {
	if !isRate(b.Leak) || !isLevel(b.Crest) || !isRate(b.Over) {
		return 0, api.ErrRange
	}
	return 0, api.OK
}

// poldersError returns the first polder with an error, and this; at is 0 if it is an error of all of them.
func poldersError(b api.BsBasin) (at int, e api.Errno) {
	if len(b.Polders) > api.MaxBsPolders {
		return 0, api.ErrLong
	}
	for i := range b.Polders {
		if e := polderError(b, i); e != api.OK {
			return i, e
		}
	}
	return 0, api.OK
}

// polderError returns the error of a polder.
func polderError(b api.BsBasin, i int) api.Errno {
	p := b.Polders[i]
	switch {
	case !tide.Name(p.Name):
		return api.ErrForm
	case slices.ContainsFunc(b.Polders[:i], func(o api.BsPolder) bool { return o.Name == p.Name }):
		return api.ErrTwice
	case !isHeight(b, p.Sill) || !isRate(p.Take) || !between(p.Room, 0, api.MaxVolume):
		return api.ErrRange
	}
	return api.OK
}

// widthError returns the error of a basin that is not wide enough; at is always 0.
func widthError(b api.BsBasin) (at int, e api.Errno) {
	rate := b.Leak
	for _, p := range b.Polders {
		rate = max(rate, p.Take)
	}
	for i, r := range b.Rows[1:] {
		if rate*(r.Level-b.Rows[i].Level) > r.Volume-b.Rows[i].Volume {
			return 0, api.ErrArg
		}
	}
	return 0, api.OK
}

// stateError returns the error of a state of a basin that has none.
func stateError(b api.BsBasin, s api.BsState) api.Errno {
	if len(s.Filled) != len(b.Polders) {
		return api.ErrArg
	}
	if !isVolume(b, s.Volume) {
		return api.ErrRange
	}
	for i, p := range b.Polders {
		if !between(s.Filled[i], 0, p.Room) {
			return api.ErrRange
		}
	}
	return api.OK
}

// limitError returns the error of a limit, or of the ticks in which the level is to stay within it.
func limitError(b api.BsBasin, s api.BsState, l []api.BsTick, limit int) api.Errno {
	if e := CheckState(b, s); e != api.OK {
		return e
	}
	if !isHeight(b, limit) {
		return api.ErrRange
	}
	_, e := run(b, s, l)
	return e
}

// flowsError returns the error of a basin, or of what flowed in some ticks.
func flowsError(b api.BsBasin, l []api.BsFlows) api.Errno {
	if _, _, e := Check(b); e != api.OK {
		return e
	}
	another := func(f api.BsFlows) bool { return len(f.Taken) != len(b.Polders) }
	switch {
	case len(l) > api.MaxBsTicks:
		return api.ErrLong
	case slices.ContainsFunc(l, another):
		return api.ErrArg
	case slices.ContainsFunc(l, tooGreat):
		return api.ErrRange
	}
	return api.OK
}

// tooGreat reports whether more flowed somewhere than there can be.
func tooGreat(f api.BsFlows) bool {
	noFlow := func(n int) bool { return !between(n, -api.MaxVolume, api.MaxVolume) }
	return noFlow(f.River) || noFlow(f.Over) || noFlow(f.Leak) || noFlow(f.Out) || slices.ContainsFunc(f.Taken, noFlow)
}

// isTick reports whether the numbers of a tick are right.
func isTick(t api.BsTick) bool { return isLevel(t.Outer) && isFlow(t.River) && isFlow(t.Out) }

// isHeight reports whether a level is one that the basin can have.
func isHeight(b api.BsBasin, level int) bool {
	return between(level, b.Rows[0].Level, api.MaxLevel)
}

// isVolume reports whether a volume is one that the basin can have.
func isVolume(b api.BsBasin, volume int) bool {
	return between(volume, b.Rows[0].Volume, api.MaxVolume)
}

// isLevel reports whether x is a level.
func isLevel(x int) bool { return between(x, api.MinLevel, api.MaxLevel) }

// isRate reports whether x can flow in a tick for each mm.
func isRate(x int) bool { return between(x, 0, api.MaxBsRate) }

// isFlow reports whether x can come or run off in a tick.
func isFlow(x int) bool { return between(x, 0, api.MaxFlow) }

// between reports whether x is from lo to hi.
func between(x, lo, hi int) bool { return lo <= x && x <= hi }
