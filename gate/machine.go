package gate

import "barrage/api"

// machine is a gate, and the state that it is in.
type machine struct {
	api.GtGate
	api.GtState
}

// machineAt returns a gate at a position.
func machineAt(g api.GtGate, pos int) machine { return machine{g, api.GtState{Pos: pos}} }

// own returns the own force, in kN.
func (m machine) own() int {
	last := len(m.Own) - 1
	if m.Pos == m.Travel {
		return m.Own[last]
	}
	n := m.Pos * last
	k, r := n/m.Travel, n%m.Travel
	return floorDiv(m.Own[k]*(m.Travel-r)+m.Own[k+1]*r, m.Travel)
}

// edge returns the level of the lower edge.
func (m machine) edge() int {
	return floorDiv(m.Open*(m.Travel-m.Pos)+m.Shut*m.Pos, m.Travel)
}

// under returns how much of the gate is below a level, in mm.
func (m machine) under(level int) int { return min(max(level-m.edge(), 0), m.Height) }

// forces returns the closing force, and the friction against any motion.
func (m machine) forces(outer, inner int) (net, rub int) {
	head := outer - inner
	lift := floorDiv(m.Float*m.under(min(outer, inner)), 1000)
	if m.Kind != api.GtFlap {
		lift = -lift
	}
	net = m.own() + lift + floorDiv(m.Push*head, 1000)
	rub = m.Seal + ceilDiv(m.Slide*max(head, -head)*m.under(max(outer, inner)), 1000000)
	return net, rub
}

// order returns how an order is done: by how many cm a gate that is not bolted moves by it, and with how much oil.
func order(o int) func(m machine, t api.GtStep) (moved, oil int) {
	switch o {
	case api.GtClose:
		return machine.close
	case api.GtOpen:
		return machine.open
	}
	return machine.hold
}

// close is how GtClose is done.
func (m machine) close(t api.GtStep) (moved, oil int) {
	net, rub := m.forces(t.Outer, t.Inner)
	return m.advance(net, rub, m.Travel-m.Pos, t.Power)
}

// open is how GtOpen is done.
func (m machine) open(t api.GtStep) (moved, oil int) {
	net, rub := m.forces(t.Outer, t.Inner)
	moved, oil = m.advance(-net, rub, m.Pos, t.Power)
	return -moved, oil
}

// hold is how GtHold is done.
func (m machine) hold(t api.GtStep) (moved, oil int) {
	net, rub := m.forces(t.Outer, t.Inner)
	switch {
	case net > m.Brake+rub:
		return min(m.Gravity, m.Travel-m.Pos), 0
	case -net > m.Brake+rub:
		return -min(m.Gravity, m.Pos), 0
	}
	return 0, 0
}

// advance returns how far a gate goes in a direction in which a force pushes it and so much way is left, and with how much oil.
func (m machine) advance(force, rub, left int, power bool) (moved, oil int) {
	switch {
	case force > rub:
		return min(m.Gravity, left), 0
	case power && force+m.Drive > rub:
		moved = min(m.Speed, left, m.reach())
		return moved, ceilDiv(moved*m.Use, 100)
	}
	return 0, 0
}

// reach returns for how many cm there is oil.
func (m machine) reach() int {
	if m.Use == 0 {
		return m.Travel
	}
	return m.Charge * 100 / m.Use
}

// step does a step, or holds the gate if the order is refused; it returns the state after it, and what came of it.
func (m machine) step(t api.GtStep, refused api.Errno) (api.GtState, api.GtMoved) {
	if refused != api.OK {
		t.Order = api.GtHold
	}
	done := api.GtMoved{Refused: refused}
	if !m.Bolted {
		done.Moved, done.Oil = order(t.Order)(m, t)
	}
	s := m.GtState
	s.Pos += done.Moved
	s.Charge -= done.Oil
	if t.Power {
		s.Charge = min(s.Charge+m.Pump, m.Capacity)
	}
	return s, done
}

// ceilDiv divides, rounded up; b is above 0.
func ceilDiv(a, b int) int { return -floorDiv(-a, b) }

// floorDiv divides, rounded down; b is above 0.
func floorDiv(a, b int) int {
	q := a / b
	if a%b < 0 {
		q--
	}
	return q
}
