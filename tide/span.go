package tide

import "barrage/api"

// span is a span with what is done to spans. One whose Lo is above its Hi has nothing in it, and stays so when it meets others.
type span struct{ api.Span }

// spanOf returns the span from lo to hi.
func spanOf(lo, hi int) span { return span{api.Span{Lo: lo, Hi: hi}} }

// empty reports whether nothing is in the span.
func (s span) empty() bool { return s.Lo > s.Hi }

// within reports whether the span has something in it, and all of it is from lo to hi.
func (s span) within(lo, hi int) bool { return !s.empty() && lo <= s.Lo && s.Hi <= hi }

// meet returns what both spans have in common.
func (s span) meet(o span) span { return spanOf(max(s.Lo, o.Lo), min(s.Hi, o.Hi)) }

// plus returns all sums of a number of each of both.
func (s span) plus(o span) span { return spanOf(s.Lo+o.Lo, s.Hi+o.Hi) }

// less returns all differences of a number of the span and one of the other.
func (s span) less(o span) span { return spanOf(s.Lo-o.Hi, s.Hi-o.Lo) }

// wider returns the span, extended at both ends.
func (s span) wider(by int) span { return spanOf(s.Lo-by, s.Hi+by) }

// allLevels returns the span of all levels.
func allLevels() span { return spanOf(api.MinLevel, api.MaxLevel) }

// between reports whether x is from lo to hi.
func between(x, lo, hi int) bool { return lo <= x && x <= hi }

// isLevel reports whether x is a level.
func isLevel(x int) bool { return between(x, api.MinLevel, api.MaxLevel) }

// isTick reports whether x is a tick.
func isTick(x int) bool { return between(x, 0, api.MaxTick) }

// areTicks reports whether there are no numbers from from on, or all n of them are ticks; n is at most MaxTdTicks.
func areTicks(from, n int) bool {
	// The sum is only made of a tick, so it cannot overflow.
	return n == 0 || isTick(from) && isTick(from+n-1)
}

// floorDiv returns a / b, rounded down; b is above 0.
func floorDiv(a, b int) int {
	q := a / b
	if a%b < 0 {
		q--
	}
	return q
}

// ceilDiv returns a / b, rounded up; b is above 0.
func ceilDiv(a, b int) int { return -floorDiv(-a, b) }
