package gate

import (
	"slices"

	"barrage/api"
)

// set is gates, each in its state, and the rules for them.
type set struct {
	machines []machine
	rules    []api.GtRule
}

// setOf returns the gates of a set in states, of which there are as many.
func setOf(l api.GtSet, states []api.GtState) set {
	s := set{rules: l.Rules}
	for i, g := range l.Gates {
		s.machines = append(s.machines, machine{g, states[i]})
	}
	return s
}

// alone returns a gate as a set: without rules and ships it does in this what it does by itself.
func alone(g api.GtGate, s api.GtState) set { return set{machines: []machine{{g, s}}} }

// states returns the states of the gates.
func (s set) states() []api.GtState {
	var out []api.GtState
	for _, m := range s.machines {
		out = append(out, m.GtState)
	}
	return out
}

// shut reports whether all gates are shut.
func (s set) shut() bool {
	return !slices.ContainsFunc(s.machines, func(m machine) bool { return m.Pos < m.Travel })
}

// kept reports whether all rules for a gate are kept.
func (s set) kept(gate int) bool {
	broken := func(r api.GtRule) bool {
		return r.Gate == gate && !between(s.machines[r.Other].Pos, r.Lo, r.Hi)
	}
	return !slices.ContainsFunc(s.rules, broken)
}

// refusal returns why an order to a gate is refused.
func (s set) refusal(gate, order int, ship bool) api.Errno {
	switch {
	case order == api.GtHold:
		return api.OK
	case s.machines[gate].Bolted:
		return api.GtErrBolt
	case ship:
		return api.GtErrShip
	case !s.kept(gate):
		return api.GtErrRule
	}
	return api.OK
}

// step does a step of all gates, and returns what came of it for each of them.
func (s set) step(steps []api.GtStep, ships []bool) []api.GtMoved {
	after := s.states()
	done := make([]api.GtMoved, len(s.machines))
	for i, m := range s.machines {
		after[i], done[i] = m.step(steps[i], s.refusal(i, steps[i].Order, ships[i]))
	}
	// The rules are about the states before: no gate is in its next one until all have done their steps.
	for i := range s.machines {
		s.machines[i].GtState = after[i]
	}
	return done
}

// stepsToShut returns after how many steps all gates are shut, if each of them has the same step again and again, and no ship is there; ErrDown if these are too many.
func (s set) stepsToShut(t api.GtStep) (n int, e api.Errno) {
	steps := slices.Repeat([]api.GtStep{t}, len(s.machines))
	ships := make([]bool, len(s.machines))
search:
	for {
		switch {
		case s.shut():
			break search
		case n == api.MaxGtSteps:
			return 0, api.ErrDown
		}
		s.step(steps, ships)
		n++
	}
	return n, api.OK
}
