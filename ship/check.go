package ship

import (
	"slices"

	"barrage/api"
	"barrage/tide"
)

// countsError returns the error of how many openings, anchorages and ships there are; at is always 0.
func countsError(p api.ShPort) (at int, e api.Errno) {
	if !between(len(p.Openings), 1, api.MaxShOpenings) || len(p.Anchors) > api.MaxShAnchors || len(p.Ships) > api.MaxShShips {
		return 0, api.ErrLong
	}
	return 0, api.OK
}

// openingsError returns the first opening with an error, and this.
func openingsError(p api.ShPort) (at int, e api.Errno) {
	return firstError(p.Openings, func(o api.ShOpening) string { return o.Name }, openingError)
}

// openingError returns the error of an opening, but for its name.
func openingError(o api.ShOpening) api.Errno {
	wrong := func(s api.ShSpan) bool { return !isTick(s.From) || !isTick(s.Until) || s.From > s.Until }
	switch {
	case !between(o.Width, 0, api.MaxShWidth) || !isLevel(o.Sill):
		return api.ErrRange
	case len(o.Shut) > api.MaxShSpans:
		return api.ErrLong
	case slices.ContainsFunc(o.Shut, wrong):
		return api.ErrRange
	}
	return api.OK
}

// anchorsError returns the first anchorage with an error, and this.
func anchorsError(p api.ShPort) (at int, e api.Errno) {
	return firstError(p.Anchors, func(a api.ShAnchor) string { return a.Name }, anchorError)
}

// anchorError returns the error of an anchorage, but for its name.
func anchorError(a api.ShAnchor) api.Errno {
	if !between(a.Room, 0, api.MaxShRoom) || !between(a.Turn, 0, api.MaxShRoom) {
		return api.ErrRange
	}
	return api.OK
}

// shipsError returns the first ship with an error, and this.
func shipsError(p api.ShPort) (at int, e api.Errno) {
	return firstError(p.Ships, func(s api.ShShip) string { return s.Name }, shipError)
}

// shipError returns the error of a ship, but for its name.
func shipError(s api.ShShip) api.Errno {
	size := between(s.Length, 1, api.MaxShLength) && between(s.Beam, 0, api.MaxShWidth) && isDepth(s.Draught)
	times := isTick(s.Ready) && between(s.Pass, 1, api.MaxShPass) && (s.Until == -1 || isTick(s.Until))
	if !size || !times || !between(s.Value, 0, api.MaxShValue) {
		return api.ErrRange
	}
	return api.OK
}

// firstError returns the first thing with an error, and this: of its name, or else what errorOf says.
func firstError[T any](l []T, name func(T) string, errorOf func(T) api.Errno) (at int, e api.Errno) {
	for i, x := range l {
		named := func(y T) bool { return name(y) == name(x) }
		if !tide.Name(name(x)) {
			return i, api.ErrForm
		}
		if slices.ContainsFunc(l[:i], named) {
			return i, api.ErrTwice
		}
		if e := errorOf(x); e != api.OK {
			return i, e
		}
	}
	return 0, api.OK
}

// numbersError returns the error of the levels and the other numbers of a port; at is always 0.
func numbersError(p api.ShPort) (at int, e api.Errno) {
	l := p.Levels
	noLevel := func(x int) bool { return !isLevel(x) }
	switch {
	case !between(len(l.Values), 1, api.MaxShTicks):
		return 0, api.ErrLong
	case slices.ContainsFunc(l.Values, noLevel) || !between(l.From, 0, api.MaxTick+1-len(l.Values)):
		return 0, api.ErrRange
	case !isDepth(p.Keel) || !isGap(p.Follow) || !isGap(p.Gap) || !isGap(p.Margin):
		return 0, api.ErrRange
	}
	return 0, api.OK
}

// planError returns the error of a port, or of a plan of it.
func planError(p api.ShPort, plan []api.ShPassage) api.Errno {
	if _, _, e := Check(p); e != api.OK {
		return e
	}
	if !isPlan(p, plan) {
		return api.ErrArg
	}
	return api.OK
}

// placeError returns the error of a port, of a plan of it, or of the opening and the tick that are asked about.
func placeError(p api.ShPort, plan []api.ShPassage, opening, tick int) api.Errno {
	if e := planError(p, plan); e != api.OK {
		return e
	}
	switch {
	case !isOpening(p, opening):
		return api.ErrNone
	case !isTick(tick):
		return api.ErrRange
	}
	return api.OK
}

// isPlan reports whether a plan is well formed, with a passage for each ship.
func isPlan(p api.ShPort, plan []api.ShPassage) bool {
	if len(plan) != len(p.Ships) {
		return false
	}
	for i, x := range plan {
		if !isPassage(p, p.Ships[i], x) {
			return false
		}
	}
	return true
}

// isPassage reports whether a passage of a ship is well formed.
func isPassage(p api.ShPort, ship api.ShShip, x api.ShPassage) bool {
	switch {
	case !between(x.Anchor, -1, len(p.Anchors)-1):
		return false
	case x.Opening == -1:
		return x.Start == -1
	}
	return isOpening(p, x.Opening) && isTick(x.Start) && (x.Anchor == -1) == (x.Start <= ship.Ready)
}

// isOrder reports whether an order has each index before n once.
func isOrder(order []int, n int) bool {
	l := slices.Sorted(slices.Values(order))
	for i, x := range l {
		if x != i {
			return false
		}
	}
	return len(l) == n
}

// isOpening reports whether there is an opening with an index.
func isOpening(p api.ShPort, i int) bool { return between(i, 0, len(p.Openings)-1) }

// isTick reports whether x is a tick.
func isTick(x int) bool { return between(x, 0, api.MaxTick) }

// isLevel reports whether x is a level.
func isLevel(x int) bool { return between(x, api.MinLevel, api.MaxLevel) }

// isDepth reports whether x is as deep as a draught can be.
func isDepth(x int) bool { return between(x, 0, api.MaxShDraught) }

// isGap reports whether x is a number of ticks that there may have to be between two things.
func isGap(x int) bool { return between(x, 0, api.MaxShGap) }

// between reports whether x is from lo to hi.
func between(x, lo, hi int) bool { return lo <= x && x <= hi }
