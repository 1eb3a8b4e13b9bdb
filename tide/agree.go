package tide

import (
	"cmp"
	"iter"
	"slices"
)

// The kinds of ends of spans.
const (
	lowest  = iota // the first level of a span
	highest        // the last one
	kinds
)

// end is an end of what a gauge says: the level, and how many more gauges there are from it on (1), or behind it (-1).
type end struct{ at, more int }

// ends are those of all gauges that speak, by their kinds, each kind ascending.
type ends [kinds][]end

// endsOf returns the ends of what gauges say.
func endsOf(voices iter.Seq[voice]) ends {
	var l ends
	for v := range voices {
		l[lowest] = append(l[lowest], end{v.Lo, 1})
		l[highest] = append(l[highest], end{v.Hi, -1})
	}
	for _, kind := range l {
		slices.SortFunc(kind, func(a, b end) int { return cmp.Compare(a.at, b.at) })
	}
	return l
}

// inOrder yields the ends, ascending. At the same level the lowest come first, since a span has both of its ends: spans that touch have this level in common.
func (l ends) inOrder() iter.Seq[end] {
	return func(yield func(end) bool) {
		lows, highs := l[lowest], l[highest]
		for len(highs) > 0 {
			next := highs[0]
			if len(lows) > 0 && lows[0].at <= next.at {
				next, lows = lows[0], lows[1:]
			} else {
				highs = highs[1:]
			}
			if !yield(next) {
				return
			}
		}
	}
}

// most returns how many gauges agree on a level at most.
func (l ends) most() int {
	many, most := 0, 0
	for x := range l.inOrder() {
		many += x.more
		most = max(most, many)
	}
	return most
}

// agreed yields the spans of levels, ascending, on which n gauges agree; n is above 0.
func (l ends) agreed(n int) iter.Seq[span] {
	return func(yield func(span) bool) {
		many, lo := 0, 0
		for x := range l.inOrder() {
			many += x.more
			if x.more > 0 && many == n {
				lo = x.at
			}
			if x.more < 0 && many == n-1 && !yield(spanOf(lo, x.at)) {
				return
			}
		}
	}
}

// around returns the span from the least to the greatest number of ascending spans, and whether there are any.
func around(spans iter.Seq[span]) (all span, found bool) {
	for s := range spans {
		if !found {
			all, found = s, true
		}
		all.Hi = s.Hi
	}
	return all, found
}

// meets reports whether the voice has something in common with one of some spans.
func (v voice) meets(spans iter.Seq[span]) bool {
	for s := range spans {
		if !v.meet(s).empty() {
			return true
		}
	}
	return false
}
