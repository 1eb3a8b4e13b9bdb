package gate

import (
	"slices"

	"barrage/api"
	"barrage/tide"
)

// gateFault returns what is wrong with a gate.
func gateFault(g api.GtGate) fault {
	return first(
		func() fault { return need(tide.Name(g.Name), api.ErrForm).in(1) },
		func() fault { return need(between(g.Kind, api.GtSector, api.GtFlap), api.ErrArg).in(1) },
		func() fault { return need(between(g.Travel, 1, api.MaxGtTravel), api.ErrRange).in(1) },
		func() fault { return need(between(len(g.Own), 2, api.MaxGtOwn), api.ErrLong).in(2) },
		func() fault { return each(len(g.Own), func(i int) fault { return ownFault(g, i) }).in(2) },
		func() fault { return need(numbersRight(g), api.ErrRange).in(3) },
		func() fault { return need(len(g.Sensors) <= api.MaxGtSensors, api.ErrLong).in(4) },
		func() fault {
			return each(len(g.Sensors), func(i int) fault { return sensorFault(g.Sensors[i]) }).in(4)
		},
		func() fault { return need(between(g.Wrong, 0, len(g.Sensors)), api.ErrRange).in(4) },
	)
}

// ownFault returns what is wrong with one of the own forces of a gate.
func ownFault(g api.GtGate, i int) fault {
	return first(
		func() fault { return need(between(g.Own[i], -api.MaxGtForce, api.MaxGtForce), api.ErrRange) },
		func() fault { return need(suits(g.Own[i], g.Kind), api.ErrArg) },
	)
}

// suits reports whether gates of a kind can have an own force: lift gates are heavy, flap gates rise by themselves.
func suits(force, kind int) bool {
	return force == 0 || force > 0 && kind == api.GtLift || force < 0 && kind == api.GtFlap
}

// numbersRight reports whether the numbers from Open to Slack are in their ranges.
func numbersRight(g api.GtGate) bool {
	return areLevels(g.Open, g.Shut) &&
		between(g.Height, 1, api.MaxGtHeight) &&
		between(g.Float, 0, api.MaxGtRate) &&
		between(g.Push, -api.MaxGtRate, api.MaxGtRate) &&
		between(g.Slide, 0, api.MaxGtRate) &&
		between(g.Seal, 0, api.MaxGtForce) &&
		between(g.Drive, 0, api.MaxGtForce) &&
		between(g.Brake, 0, api.MaxGtForce) &&
		between(g.Speed, 1, api.MaxGtMoves) &&
		between(g.Gravity, 1, api.MaxGtMoves) &&
		between(g.Use, 0, api.MaxGtOil) &&
		between(g.Pump, 0, api.MaxGtOil) &&
		between(g.Capacity, 0, api.MaxGtOil) &&
		between(g.Slack, 0, (g.Travel-1)/2)
}

// sensorFault returns what is wrong with a sensor.
func sensorFault(s api.GtSensor) fault {
	return first(
		func() fault { return need(s.Kind == api.GtEncoder && s.At == 0 || s.Kind == api.GtSwitch, api.ErrArg) },
		func() fault {
			return need(between(s.At, 0, api.MaxGtTravel) && between(s.Tol, 0, api.MaxGtTravel), api.ErrRange)
		},
	)
}

// levelsFault returns what is wrong with a gate, or with the levels on both sides of it.
func levelsFault(g api.GtGate, outer, inner int) fault {
	return first(
		func() fault { return gateFault(g) },
		func() fault { return need(areLevels(outer, inner), api.ErrRange) },
	)
}

// stateFault returns what is wrong with a gate, or with a state of it.
func stateFault(g api.GtGate, s api.GtState) fault {
	return first(
		func() fault { return gateFault(g) },
		func() fault {
			return need(between(s.Pos, 0, g.Travel) && between(s.Charge, 0, g.Capacity), api.ErrRange)
		},
	)
}

// orderFault returns what is wrong with a step, whatever the gate is.
func orderFault(t api.GtStep) fault {
	return first(
		func() fault { return need(between(t.Order, api.GtHold, api.GtOpen), api.ErrArg) },
		func() fault { return need(areLevels(t.Outer, t.Inner), api.ErrRange) },
	)
}

// stepFault returns what is wrong with a gate, with a state of it, or with a step.
func stepFault(g api.GtGate, s api.GtState, t api.GtStep) fault {
	return first(
		func() fault { return stateFault(g, s) },
		func() fault { return orderFault(t) },
	)
}

// setFault returns what is wrong with a set.
func setFault(l api.GtSet) fault {
	return first(
		func() fault { return need(between(len(l.Gates), 1, api.MaxGtGates), api.ErrLong).in(1) },
		func() fault { return each(len(l.Gates), func(i int) fault { return memberFault(l.Gates, i) }).in(1) },
		func() fault { return need(len(l.Rules) <= api.MaxGtRules, api.ErrLong).in(2) },
		func() fault { return each(len(l.Rules), func(i int) fault { return ruleFault(l, l.Rules[i]) }).in(2) },
	)
}

// memberFault returns what is wrong with one of the gates of a set.
func memberFault(l []api.GtGate, i int) fault {
	return first(
		func() fault { return gateFault(l[i]) },
		func() fault {
			twice := slices.ContainsFunc(l[:i], func(o api.GtGate) bool { return o.Name == l[i].Name })
			return need(!twice, api.ErrTwice)
		},
	)
}

// ruleFault returns what is wrong with a rule.
func ruleFault(l api.GtSet, r api.GtRule) fault {
	last := len(l.Gates) - 1
	return first(
		func() fault { return need(between(r.Gate, 0, last) && between(r.Other, 0, last), api.ErrNone) },
		func() fault { return need(r.Gate != r.Other, api.ErrArg) },
		func() fault { return need(0 <= r.Lo && r.Lo <= r.Hi && r.Hi <= api.MaxGtTravel, api.ErrRange) },
	)
}

// areLevels reports whether two numbers are levels.
func areLevels(a, b int) bool {
	return between(a, api.MinLevel, api.MaxLevel) && between(b, api.MinLevel, api.MaxLevel)
}

// between reports whether x is from lo to hi.
func between(x, lo, hi int) bool { return lo <= x && x <= hi }
