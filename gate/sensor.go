package gate

import (
	"iter"

	"barrage/api"
)

// where returns the positions on which the sensors of a gate agree.
func where(g api.GtGate, readings []int) (api.Span, api.Errno) {
	if len(readings) != len(g.Sensors) {
		return api.Span{}, api.ErrArg
	}
	lo, hi := -1, -1
	for p := range agreed(g, readings) {
		if lo < 0 {
			lo = p
		}
		hi = p
	}
	if lo < 0 {
		return api.Span{}, api.ErrDown
	}
	return api.Span{Lo: lo, Hi: hi}, api.OK
}

// agreed yields the positions with which all sensors but Wrong of them agree, from open to shut.
func agreed(g api.GtGate, readings []int) iter.Seq[int] {
	return func(yield func(int) bool) {
		for p := range g.Travel + 1 {
			if disagreeing(g.Sensors, readings, p) <= g.Wrong && !yield(p) {
				return
			}
		}
	}
}

// disagreeing returns how many sensors do not agree with a position.
func disagreeing(l []api.GtSensor, readings []int, pos int) int {
	n := 0
	for i, s := range l {
		if !agrees(s, readings[i], pos) {
			n++
		}
	}
	return n
}

// agrees reports whether a sensor with a reading agrees with a position.
func agrees(s api.GtSensor, reading, pos int) bool {
	switch {
	case s.Kind == api.GtEncoder:
		// The tolerance goes with the position: with any reading the sum could overflow.
		return between(reading, pos-s.Tol, pos+s.Tol)
	case reading == 1:
		return pos >= s.At-s.Tol
	case reading == 0:
		return pos <= s.At+s.Tol
	}
	return false
}

// end returns the end at which a gate is, whichever of some positions it has.
func end(g api.GtGate, s api.Span) int {
	switch {
	case s.Hi <= g.Slack:
		return api.GtOpenEnd
	case s.Lo >= g.Travel-g.Slack:
		return api.GtShutEnd
	}
	return api.GtNoEnd
}
