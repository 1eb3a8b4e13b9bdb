package ship

import (
	"iter"
	"slices"

	"barrage/api"
)

// pair is two things that belong together.
type pair[A, B any] struct {
	first  A
	second B
}

// move is a ship, and its passage.
type move = pair[api.ShShip, api.ShPassage]

// placed is a port, and the ships in it that are placed, in the order in which they were.
type placed struct {
	api.ShPort
	moves []move
}

// rule is something that can be wrong with a passage.
type rule struct {
	e     api.Errno
	wrong func() bool
}

// faults yields what is wrong with a move, if it comes after those of the ships that are placed.
func (s *placed) faults(m move) iter.Seq[api.Errno] {
	return func(yield func(api.Errno) bool) {
		if !passes(m.second) {
			broken(s.turning(m))(yield)
		} else if e := firstBroken(s.alone(m)); e == api.OK || yield(e) {
			broken(s.together(m))(yield)
		}
	}
}

// alone returns what can be wrong with a passage through an opening, whatever other ships do; only the first of it that is counts.
func (s *placed) alone(m move) []rule {
	ship, start := m.first, m.second.Start
	opening := s.Openings[m.second.Opening]
	return []rule{
		{api.ShErrEarly, func() bool { return start < ship.Ready }},
		{api.ShErrLate, func() bool { return ship.Until != -1 && start > ship.Until }},
		{api.ShErrWide, func() bool { return ship.Beam > opening.Width }},
		{api.ShErrDeep, func() bool { return s.isShallow(m) }},
		{api.ShErrShut, func() bool { return s.isShut(m) }},
	}
}

// together returns what can be wrong with a passage through an opening as other ships are placed.
func (s *placed) together(m move) []rule {
	meets := func(o move) bool { return s.meet(o, m) }
	return []rule{
		{api.ShErrMeet, func() bool { return slices.ContainsFunc(s.moves, meets) }},
		{api.ShErrRoom, func() bool { return isHeld(m) && (!s.isThere(m) || s.isFull(m)) }},
	}
}

// turning returns what can be wrong with a ship that is turned back.
func (s *placed) turning(m move) []rule {
	ship, anchor := m.first, m.second.Anchor
	return []rule{
		{api.ShErrTurn, func() bool { return anchor == -1 || !s.isThere(m) || ship.Length > s.Anchors[anchor].Turn }},
	}
}

// broken yields the errors of the rules that are broken.
func broken(l []rule) iter.Seq[api.Errno] {
	return func(yield func(api.Errno) bool) {
		for _, r := range l {
			if r.wrong() && !yield(r.e) {
				return
			}
		}
	}
}

// firstBroken returns the error of the first rule that is broken.
func firstBroken(l []rule) api.Errno {
	for e := range broken(l) {
		return e
	}
	return api.OK
}

// passes reports whether a passage is through an opening.
func passes(x api.ShPassage) bool { return x.Opening != -1 }

// passing returns the ticks at which a ship that passes is in its opening.
func passing(ship api.ShShip, x api.ShPassage) api.ShSpan {
	return api.ShSpan{From: x.Start, Until: x.Start + ship.Pass}
}

// clearance returns the ticks at which the opening that a ship passes may not be shut.
func clearance(p api.ShPort, ship api.ShShip, x api.ShPassage) api.ShSpan {
	s := passing(ship, x)
	s.Until += p.Margin
	return s
}

// clearances returns the ticks at which an opening may not be shut, a span for each ship that passes it, the first one to begin first.
func clearances(p api.ShPort, plan []api.ShPassage, opening int) []api.ShSpan {
	var l []api.ShSpan
	for i, x := range plan {
		if x.Opening == opening {
			l = append(l, clearance(p, p.Ships[i], x))
		}
	}
	slices.SortFunc(l, func(a, b api.ShSpan) int { return a.From - b.From })
	return l
}

// isIn reports whether a tick is in a span.
func isIn(s api.ShSpan, tick int) bool { return between(tick, s.From, s.Until-1) }

// isShallow reports whether there is too little water below a ship that passes, or none is known of.
func (s *placed) isShallow(m move) bool {
	in := passing(m.first, m.second)
	l := s.Levels
	if in.From < l.From || in.Until > l.From+len(l.Values) {
		return true
	}
	least := s.Openings[m.second.Opening].Sill + m.first.Draught + s.Keel
	return slices.Min(l.Values[in.From-l.From:in.Until-l.From]) < least
}

// isShut reports whether an opening is shut while a ship passes it, or too soon after.
func (s *placed) isShut(m move) bool {
	c := clearance(s.ShPort, m.first, m.second)
	return slices.ContainsFunc(s.Openings[m.second.Opening].Shut, func(o api.ShSpan) bool {
		return max(c.From, o.From) < min(c.Until, o.Until)
	})
}

// meet reports whether a ship that passes meets another one, which was placed before it.
func (s *placed) meet(before, m move) bool {
	if before.second.Opening != m.second.Opening {
		return false
	}
	first, then := before, m
	if m.second.Start < before.second.Start {
		first, then = m, before
	}
	gap := s.Gap
	if first.first.Inside == then.first.Inside {
		gap = s.Follow
	}
	return then.second.Start < passing(first.first, first.second).Until+gap
}

// holding returns the ticks at which a ship is held; there are none if it is not.
func holding(m move) api.ShSpan {
	return api.ShSpan{From: m.first.Ready, Until: m.second.Start}
}

// isHeld reports whether a ship is held, at any tick.
func isHeld(m move) bool { return m.second.Start > m.first.Ready }

// isThere reports whether an anchorage is on the side that the ship comes from.
func (s *placed) isThere(m move) bool {
	return s.Anchors[m.second.Anchor].Inside == m.first.Inside
}

// isFull reports whether there is no room for a ship where it is held, at one of the ticks at which it is.
func (s *placed) isFull(m move) bool {
	full := func(tick int) bool {
		return isIn(holding(m), tick) && s.crowd(m.second.Anchor, tick)+m.first.Length > s.Anchors[m.second.Anchor].Room
	}
	// There is least room at a tick at which one of the ships has just come.
	return full(m.first.Ready) || slices.ContainsFunc(s.moves, func(o move) bool { return full(o.first.Ready) })
}

// crowd returns the lengths of all ships together that are placed, and held at an anchorage at a tick.
func (s *placed) crowd(anchor, tick int) int {
	sum := 0
	for _, o := range s.moves {
		if o.second.Anchor == anchor && isIn(holding(o), tick) {
			sum += o.first.Length
		}
	}
	return sum
}
