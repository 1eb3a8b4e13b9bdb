package ship

import (
	"iter"
	"slices"

	"barrage/api"
)

// judge returns the faults of a plan, which is well formed.
func judge(p api.ShPort, plan []api.ShPassage) []api.ShFault {
	s := placed{ShPort: p}
	var l []api.ShFault
	for i, x := range plan {
		m := move{p.Ships[i], x}
		for e := range s.faults(m) {
			l = append(l, api.ShFault{Error: e, Ship: i})
		}
		s.moves = append(s.moves, m)
	}
	return l
}

// passages yields the moves of a ship that may have no fault and begin after a tick, the ones that are to be taken rather first: it passes as early as it can, or else it is turned back.
func (s *placed) passages(ship api.ShShip, after int) iter.Seq[move] {
	return func(yield func(move) bool) {
		first := max(ship.Ready, after+1, s.Levels.From)
		last := s.Levels.From + len(s.Levels.Values) - ship.Pass
		for start := first; start <= last; start++ {
			for x := range s.through(ship, start) {
				if !yield(move{ship, x}) {
					return
				}
			}
		}
		for a := range s.Anchors {
			if !yield(move{ship, api.ShPassage{Opening: -1, Start: -1, Anchor: a}}) {
				return
			}
		}
	}
}

// through yields the passages of a ship that begin at a tick, each opening with each anchorage where the ship can be held until then.
func (s *placed) through(ship api.ShShip, start int) iter.Seq[api.ShPassage] {
	first, last := -1, -1
	if start > ship.Ready {
		first, last = 0, len(s.Anchors)-1
	}
	return func(yield func(api.ShPassage) bool) {
		for o := range s.Openings {
			for a := first; a <= last; a++ {
				if !yield(api.ShPassage{Opening: o, Start: start, Anchor: a}) {
					return
				}
			}
		}
	}
}

// isRight reports whether nothing is wrong with a move.
func (s *placed) isRight(m move) bool {
	for range s.faults(m) {
		return false
	}
	return true
}

// place places a ship after those that are, and returns its passage, which does not begin until after a tick; it reports whether there is one.
func (s *placed) place(ship api.ShShip, after int) (api.ShPassage, bool) {
	for m := range s.passages(ship, after) {
		if s.isRight(m) {
			s.moves = append(s.moves, m)
			return m.second, true
		}
	}
	return api.ShPassage{}, false
}

// placeAll places ships in an order, and puts their passages into a plan.
func (s *placed) placeAll(order []int, after int, plan []api.ShPassage) ([]api.ShPassage, api.Errno) {
	for _, i := range order {
		x, ok := s.place(s.Ships[i], after)
		if !ok {
			return nil, api.ErrDown
		}
		plan[i] = x
	}
	return plan, api.OK
}

// planBy returns the plan by an order.
func planBy(p api.ShPort, order []int) ([]api.ShPassage, api.Errno) {
	s := placed{ShPort: p}
	return s.placeAll(order, -1, make([]api.ShPassage, len(order)))
}

// replan returns the plan in which ships that have begun to pass at a tick stay as they are.
func replan(p api.ShPort, plan []api.ShPassage, now int) ([]api.ShPassage, api.Errno) {
	s := placed{ShPort: p}
	var others []int
	for i, x := range plan {
		if passes(x) && x.Start <= now {
			s.moves = append(s.moves, move{p.Ships[i], x})
		} else {
			others = append(others, i)
		}
	}
	return s.placeAll(others, now, slices.Clone(plan))
}
