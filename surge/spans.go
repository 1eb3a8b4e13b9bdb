package surge

import "barrage/api"

// spans are the levels between which histories are, one span for each tick of a task. A span whose Lo is above its Hi has no levels, and stays so when it is narrowed.
type spans []api.Span

// meet narrows the spans to what they have in common with others.
func (s spans) meet(others spans) {
	for i, o := range others {
		s[i] = api.Span{Lo: max(s[i].Lo, o.Lo), Hi: min(s[i].Hi, o.Hi)}
	}
}

// join widens the spans so that others are in them.
func (s spans) join(others spans) {
	for i, o := range others {
		s[i] = api.Span{Lo: min(s[i].Lo, o.Lo), Hi: max(s[i].Hi, o.Hi)}
	}
}

// tighten narrows the spans to what can be reached from all others if the level changes by at most rate from tick to tick.
func (s spans) tighten(rate int) {
	// Once forward and once back is enough: on the way from one tick to another one, each neighbour hands on what it was told.
	for i := 1; i < len(s); i++ {
		s.reach(i-1, i, rate)
	}
	for i := len(s) - 1; i > 0; i-- {
		s.reach(i, i-1, rate)
	}
}

// reach narrows the span at an index to what can be reached from the one at its neighbour.
func (s spans) reach(from, to, rate int) {
	s[to] = api.Span{Lo: max(s[to].Lo, s[from].Lo-rate), Hi: min(s[to].Hi, s[from].Hi+rate)}
}

// empty reports whether one of the spans has no levels.
func (s spans) empty() bool {
	for _, x := range s {
		if x.Lo > x.Hi {
			return true
		}
	}
	return false
}

// hold reports whether each value is in its span.
func (s spans) hold(values []int) bool {
	for i, x := range s {
		if !between(values[i], x.Lo, x.Hi) {
			return false
		}
	}
	return true
}

// below reports whether the Hi of no span is above that of the other one.
func (s spans) below(others spans) bool {
	for i, o := range others {
		if s[i].Hi > o.Hi {
			return false
		}
	}
	return true
}

// lows returns the Lo of each span.
func (s spans) lows() []int {
	out := make([]int, len(s))
	for i, x := range s {
		out[i] = x.Lo
	}
	return out
}

// highs returns the Hi of each span.
func (s spans) highs() []int {
	out := make([]int, len(s))
	for i, x := range s {
		out[i] = x.Hi
	}
	return out
}
