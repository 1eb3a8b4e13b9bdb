package gate_test

import (
	"math/big"
	"math/rand"
	"slices"
	"testing"

	"barrage/api"
	"barrage/gate"
)

// down divides, rounded down.
func down(a, b int) int {
	// Euclid's division of math/big rounds down, as b is above 0.
	return int(new(big.Int).Div(big.NewInt(int64(a)), big.NewInt(int64(b))).Int64())
}

// up divides, rounded up.
func up(a, b int) int { return -down(-a, b) }

// within returns what is nearest to x from 0 to most.
func within(x, most int) int { return slices.Min(ints(slices.Max(ints(x, 0)), most)) }

// ownOf returns the own force of a gate, by the definition alone.
func ownOf(g api.GtGate, pos int) int {
	n := pos * (len(g.Own) - 1)
	k := down(n, g.Travel)
	if k == len(g.Own)-1 {
		return g.Own[k]
	}
	r := n - k*g.Travel
	return down(g.Own[k]*(g.Travel-r)+g.Own[k+1]*r, g.Travel)
}

// forceOf returns the closing force on a gate and the friction, by the definitions alone.
func forceOf(g api.GtGate, pos, outer, inner int) (net, rub int) {
	edge := down(g.Open*(g.Travel-pos)+g.Shut*pos, g.Travel)
	lesser, greater := min(outer, inner), max(outer, inner)
	net = ownOf(g, pos)
	float := down(g.Float*within(lesser-edge, g.Height), 1000)
	if g.Kind == api.GtFlap {
		net += float
	} else {
		net -= float
	}
	net += down(g.Push*(outer-inner), 1000)
	return net, g.Seal + up(g.Slide*(greater-lesser)*within(greater-edge, g.Height), 1000000)
}

// force tests what is the closing force, and what the friction.
func force(t *testing.T, what any, g api.GtGate, pos, outer, inner, net, rub int) {
	t.Helper()
	need(t, g)
	if a, b, e := gate.Force(g, pos, outer, inner); a != net || b != rub || e != api.OK {
		t.Errorf("%v at %d, %d and %d: %d, %d, %d; not %d, %d", what, pos, outer, inner, a, b, e, net, rub)
	}
}

// P3.2: the own force, between its places and at them, rounded down.
func TestP3_2Own(t *testing.T) {
	g := pushed(0)
	g.Own = ints(10, 0, 7, 3)
	for pos, want := range map[int]int{0: 10, 1: 9, 2: 9, 3: 9, 4: 8, 33: 0, 34: 0, 35: 0, 38: 0, 39: 1, 66: 6, 67: 6, 68: 6, 69: 6, 99: 3, 100: 3} {
		force(t, "a lift", g, pos, 0, 0, want, 0)
	}
	g.Kind, g.Own = api.GtFlap, ints(-10, 0, -7, -3)
	for pos, want := range map[int]int{0: -10, 1: -10, 3: -10, 4: -9, 33: -1, 34: -1, 66: -7, 67: -7, 75: -6, 76: -6, 99: -4, 100: -3} {
		force(t, "a flap", g, pos, 0, 0, want, 0)
	}
	g.Travel, g.Own = 1, ints(-5, -8)
	force(t, "a short way", g, 0, 0, 0, -5, 0)
	force(t, "a short way", g, 1, 0, 0, -8, 0)
	g.Travel, g.Own = 3, slices.Repeat(ints(-5, -8), 8)
	for pos, want := range ints(-5, -8, -5, -8) {
		force(t, "more forces than positions", g, pos, 0, 0, want, 0)
	}
}

// P3.2: the edge, the immersion by the lesser level, and the wet height by the greater one.
func TestP3_2Water(t *testing.T) {
	g := pushed(0)
	g.Travel, g.Open, g.Shut, g.Height, g.Float, g.Slide = 3, 100, -100, 50, 1000, 1000
	// The edge is at 100, 33 (33.3), -34 (-33.3) and -100.
	for _, c := range []struct{ pos, outer, inner, net, rub int }{
		{0, 100, 100, 0, 0}, {0, 101, 101, -1, 0}, {0, 149, 149, -49, 0}, {0, 150, 150, -50, 0}, {0, 999, 999, -50, 0}, {0, -20000, -20000, 0, 0},
		{1, 33, 33, 0, 0}, {1, 34, 34, -1, 0}, {1, 34, 200, -1, 9}, {1, 200, 34, -1, 9}, {1, 33, 34, 0, 1}, {1, 32, 33, 0, 0},
		{2, -34, -34, 0, 0}, {2, -33, -33, -1, 0}, {2, -33, -31, -1, 1}, {2, 10, 15, -44, 1}, {2, 10, 30, -44, 1}, {2, 10, 31, -44, 2},
		{3, -101, -101, 0, 0}, {3, -99, -99, -1, 0}, {3, 20000, -20000, 0, 2000}, {3, -20000, 20000, 0, 2000}, {3, 20000, -99, -1, 1005},
	} {
		force(t, "a lift", g, c.pos, c.outer, c.inner, c.net, c.rub)
		g.Kind = api.GtFlap
		force(t, "a flap", g, c.pos, c.outer, c.inner, -c.net, c.rub)
		g.Kind = api.GtSector
		force(t, "a sector gate", g, c.pos, c.outer, c.inner, c.net, c.rub)
		g.Kind = api.GtLift
	}
}

// P3.2: each part of the forces is rounded by itself: buoyancy and push down, also below 0, and what slides up.
func TestP3_2Rounded(t *testing.T) {
	g := pushed(0)
	g.Height, g.Push, g.Seal = 30000, 3, 4
	for head, want := range map[int]int{0: 0, 333: 0, 334: 1, 1000: 3, -1: -1, -333: -1, -334: -2, -1000: -3, -1001: -4} {
		force(t, "pushed to close", g, 7, head, 0, want, 4)
		g.Push = -3
		force(t, "pushed to open", g, 7, 0, head, want, 4)
		g.Push = 3
	}
	g.Push, g.Float = 0, 3
	for level, want := range map[int]int{0: 0, 333: 0, 334: -1, 666: -1, 667: -2, 1000: -3} {
		force(t, "buoyant", g, 7, level, level, want, 4)
	}
	g.Kind = api.GtFlap
	for level, want := range map[int]int{0: 0, 333: 0, 334: 1, 666: 1, 667: 2, 1000: 3} {
		force(t, "a flap", g, 7, level, level, want, 4)
	}
	g.Float, g.Slide = 0, 1
	for level, want := range map[int]int{0: 4, 1: 5, 999: 5, 1000: 5, 1001: 6, 1414: 6, 1415: 7} {
		force(t, "it slides", g, 7, level, 0, 0, want)
		force(t, "it slides", g, 7, 0, level, 0, want)
	}
	// 5 of its own, 0.5 of buoyancy and -0.5 of push: each is rounded down before they are taken together.
	g = pushed(5)
	g.Height, g.Float, g.Push = 30000, 1, 1
	force(t, "all", g, 50, 500, 1000, 4, 0)
	g.Kind, g.Own = api.GtFlap, ints(-5, -5)
	force(t, "all of a flap", g, 50, 500, 1000, -6, 0)
}

// P3.2: the greatest forces that there can be.
func TestP3_2Full(t *testing.T) {
	g := pushed(0)
	g.Travel, g.Own = 5000, slices.Repeat(ints(200000), 16)
	g.Open, g.Shut, g.Height, g.Float, g.Push, g.Slide, g.Seal = 20000, -20000, 30000, 10000, 10000, 10000, 200000
	force(t, "open", g, 0, 20000, -20000, 200000+400000, 200000)
	force(t, "shut", g, 5000, 20000, -20000, 200000+400000, 200000+12000000)
	force(t, "shut", g, 5000, -20000, 20000, 200000-400000, 200000+12000000)
	force(t, "under water", g, 5000, 20000, 20000, 200000-300000, 200000)
}

// P3.2: all forces are those of the definitions.
func TestP3_2All(t *testing.T) {
	r := rand.New(rand.NewSource(32))
	signs := map[bool]int{}
	for range 5000 {
		g := anyGate(r)
		pos, outer, inner := from(r, 0, g.Travel), from(r, -3500, 3500), from(r, -3500, 3500)
		net, rub := forceOf(g, pos, outer, inner)
		force(t, g, g, pos, outer, inner, net, rub)
		signs[net > rub]++
	}
	if signs[true] < 500 || signs[false] < 500 {
		t.Errorf("%v: too much alike", signs)
	}
}

// falls tests at which position a gate does not close by itself.
func falls(t *testing.T, what any, g api.GtGate, outer, inner, want int) {
	t.Helper()
	need(t, g)
	if p, e := gate.Falls(g, outer, inner); p != want || e != api.OK {
		t.Errorf("%v, %d and %d: %d, %d; not %d", what, outer, inner, p, e, want)
	}
}

// P3.2: where a gate does not close by itself.
func TestP3_2Falls(t *testing.T) {
	g := pushed(5)
	for seal, want := range map[int]int{0: -1, 4: -1, 5: 0, 6: 0} {
		g.Seal = seal
		falls(t, seal, g, 0, 0, want)
	}
	g.Own = ints(100, 0)
	for seal, want := range map[int]int{0: -1, 1: 99, 2: 98, 50: 50, 99: 1, 100: 0} {
		g.Seal = seal
		falls(t, seal, g, 0, 0, want) // at the end there is no force: that does not matter
	}
	g.Own, g.Seal = ints(50, 0, 50), 20
	falls(t, "in the middle", g, 0, 0, 30)
	g.Own = ints(0, 50, 0)
	falls(t, "at both ends", g, 0, 0, 0)
	g.Travel, g.Own, g.Seal = 1, ints(1, 0), 0
	falls(t, "a short way", g, 0, 0, -1)
	g.Own = ints(0, 1)
	falls(t, "a short way", g, 0, 0, 0)
}

// P3.2: Falls is the first position before the end at which the force of the definitions is too small.
func TestP3_2FallsAll(t *testing.T) {
	r := rand.New(rand.NewSource(322))
	counts := map[string]int{}
	for range 5000 {
		g := anyGate(r)
		g.Brake = 0
		outer, inner := from(r, -3500, 3500), from(r, -3500, 3500)
		want := -1
		for p := g.Travel - 1; p >= 0; p-- {
			if net, rub := forceOf(g, p, outer, inner); net <= rub {
				want = p
			}
		}
		falls(t, g, g, outer, inner, want)
		switch {
		case want < 0:
			counts["all the way"]++
		case want > 0:
			counts["a part of it"]++
		}
	}
	if counts["all the way"] < 300 || counts["a part of it"] < 300 {
		t.Errorf("%v: too much alike", counts)
	}
}

// P3.2: positions and levels that are none.
func TestP3_2Range(t *testing.T) {
	for _, n := range append(wild(), -20001, -20000, 0, 1000, 1001, 20000, 20001) {
		want := api.OK
		if n < 0 || n > 1000 {
			want = api.ErrRange
		}
		if a, b, e := gate.Force(east(), n, 0, 0); e != want || e != api.OK && (a != 0 || b != 0) {
			t.Errorf("at %d: %d, %d, %d", n, a, b, e)
		}
		want = api.OK
		if n < -20000 || n > 20000 {
			want = api.ErrRange
		}
		for _, levels := range [][2]int{{n, 0}, {0, n}} {
			if a, b, e := gate.Force(east(), 5, levels[0], levels[1]); e != want || e != api.OK && (a != 0 || b != 0) {
				t.Errorf("Force, %v: %d, %d, %d", levels, a, b, e)
			}
			if p, e := gate.Falls(east(), levels[0], levels[1]); e != want || e != api.OK && p != 0 {
				t.Errorf("Falls, %v: %d, %d", levels, p, e)
			}
		}
	}
}
