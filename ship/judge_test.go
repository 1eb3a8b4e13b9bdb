package ship_test

import (
	"slices"
	"testing"

	"barrage/api"
	"barrage/ship"
)

// P6.2: no such ship or opening comes before a start that is no tick.
func TestP6_2Arguments(t *testing.T) {
	p := full()
	for _, n := range append(wild(), -1, 0, 1, 2, 3) {
		for _, start := range append(wild(), -1, 0, 17, 199999, 200000, 200001) {
			tick := 0 <= start && start <= 200000
			for _, c := range []struct {
				ship, opening int
				right         bool
			}{{n, 0, 0 <= n && n <= 2}, {2, n, 0 <= n && n <= 1}, {n, n, 0 <= n && n <= 1}} {
				why, e := ship.Fits(p, c.ship, c.opening, start)
				switch {
				case !c.right && (e != api.ErrNone || why != api.OK):
					t.Errorf("%v at %d: %d, %d", c, start, why, e)
				case c.right && !tick && (e != api.ErrRange || why != api.OK):
					t.Errorf("%v at %d: %d, %d", c, start, why, e)
				case c.right && tick && e != api.OK:
					t.Errorf("%v at %d: %d, %d", c, start, why, e)
				}
			}
		}
	}
	p.Ships = nil
	fits(t, "no ships", p, 0, 0, 0, 0, api.ErrNone)
}

// P6.2: a ship does not begin before it is ready, nor after what it was promised.
func TestP6_2Times(t *testing.T) {
	p := pond(boat("a", 10, 3))
	for until, last := range map[int]int{-1: 97, 0: 0, 9: 9, 10: 10, 12: 12, 97: 97, 98: 97, 200000: 97} {
		p.Ships[0].Until = until
		for start := range 101 {
			why := api.OK
			switch {
			case start < 10:
				why = api.ShErrEarly
			case until != -1 && start > until:
				why = api.ShErrLate
			case start > last:
				why = api.ShErrDeep
			}
			fits(t, until, p, 0, 0, start, why, api.OK)
		}
	}
}

// P6.2: what is wrong is the first thing that is.
func TestP6_2Order(t *testing.T) {
	p := pond(boat("a", 50, 3))
	p.Openings[0].Shut = shut(0, 200000)
	p.Ships[0].Until, p.Ships[0].Beam, p.Ships[0].Draught = 48, 1, 1
	fits(t, "all", p, 0, 0, 49, api.ShErrEarly, api.OK)
	fits(t, "but early", p, 0, 0, 50, api.ShErrLate, api.OK)
	p.Ships[0].Until = 50
	fits(t, "but late", p, 0, 0, 50, api.ShErrWide, api.OK)
	p.Openings[0].Width = 1
	fits(t, "but wide", p, 0, 0, 50, api.ShErrDeep, api.OK)
	p.Openings[0].Sill = -1
	fits(t, "but deep", p, 0, 0, 50, api.ShErrShut, api.OK)
	p.Openings[0].Shut = nil
	fits(t, "nothing", p, 0, 0, 50, api.OK, api.OK)
}

// P6.2: a ship is not wider than the opening.
func TestP6_2Wide(t *testing.T) {
	for _, beam := range ints(0, 1, 299, 300, 301, 5000) {
		p := pond(boat("a", 0, 1))
		p.Ships[0].Beam, p.Openings[0].Width = beam, 300
		why := api.OK
		if beam > 300 {
			why = api.ShErrWide
		}
		fits(t, beam, p, 0, 0, 0, why, api.OK)
	}
}

// P6.2: there is water enough at each tick at which a ship is in the opening, and not at others.
func TestP6_2Deep(t *testing.T) {
	p := pond(boat("a", 0, 3))
	p.Openings[0].Sill, p.Ships[0].Draught, p.Keel = -5000, 4000, 500
	for _, low := range ints(-501, -500, -499) {
		p.Levels.Values = slices.Repeat(ints(-500), 20)
		p.Levels.Values[10] = low
		for start := range 20 {
			why := api.OK
			if low < -500 && 8 <= start && start <= 10 || start > 17 {
				why = api.ShErrDeep
			}
			fits(t, low, p, 0, 0, start, why, api.OK)
		}
	}
	// Where no level is known, it is not deep enough.
	p.Levels = api.Series{From: 30, Values: slices.Repeat(ints(0), 6)}
	for start := range 60 {
		why := api.ShErrDeep
		if 30 <= start && start <= 33 {
			why = api.OK
		}
		fits(t, "known from 30 to 35", p, 0, 0, start, why, api.OK)
	}
	// A sill above the water.
	p.Ships[0].Draught, p.Keel, p.Openings[0].Sill = 0, 0, 1
	fits(t, "dry", p, 0, 0, 30, api.ShErrDeep, api.OK)
	p.Openings[0].Sill = 0
	fits(t, "as high as the water", p, 0, 0, 30, api.OK, api.OK)
}

// P6.2: an opening is not shut while a ship is in it, nor within the margin after.
func TestP6_2Shut(t *testing.T) {
	for _, margin := range ints(0, 1, 4) {
		p := pond(boat("a", 0, 3))
		p.Margin = margin
		p.Openings[0].Shut = shut(40, 42, 20, 20, 60, 61)
		for start := range 97 {
			why := api.OK
			for _, tick := range ints(40, 41, 60) {
				if start <= tick && tick < start+3+margin {
					why = api.ShErrShut
				}
			}
			fits(t, margin, p, 0, 0, start, why, api.OK)
		}
	}
	// A ship may still be on its way behind the last tick of all, and a span that ends there does not last.
	p := pond(boat("a", 0, 1))
	p.Levels.From, p.Margin = 199901, 50
	p.Openings[0].Shut = shut(199999, 200000)
	fits(t, "last tick", p, 0, 0, 200000, api.OK, api.OK)
	fits(t, "before it", p, 0, 0, 199999, api.ShErrShut, api.OK)
}

// P6.3: two ships in the same opening, one after the other: from the same side with Follow between them, or else with Gap besides.
func TestP6_3Meet(t *testing.T) {
	for _, c := range []struct {
		a, b   bool
		needed int
	}{{false, false, 2}, {true, true, 2}, {false, true, 7}, {true, false, 7}} {
		p := pond(boat("a", 30, 3), boat("b", 10, 5))
		p.Ships[0].Inside, p.Ships[1].Inside = c.a, c.b
		p.Follow, p.Gap = 2, 7
		side := 0
		if c.b {
			side = 1
		}
		for start := 11; start <= 60; start++ {
			meet := start >= 30 && start < 33+c.needed || start < 30 && 30 < start+5+c.needed
			if meet {
				judged(t, c, p, moves(0, 30, -1, 0, start, side), faults(1, api.ShErrMeet)...)
			} else {
				judged(t, c, p, moves(0, 30, -1, 0, start, side))
			}
		}
		p.Openings = append(p.Openings, api.ShOpening{Name: "other"})
		judged(t, c, p, moves(0, 30, -1, 1, 30, side))
		judged(t, c, p, moves(1, 30, -1, 1, 30, side), faults(1, api.ShErrMeet)...)
	}
}

// P6.3: a ship meets one with a lesser index, whatever else is wrong with that; one that is turned back meets none.
func TestP6_3Others(t *testing.T) {
	p := pond(boat("a", 10, 2), boat("b", 10, 2), boat("c", 10, 2))
	judged(t, "three", p, moves(0, 10, -1, 0, 11, 0, 0, 12, 0), faults(1, api.ShErrMeet, 2, api.ShErrMeet)...)
	judged(t, "an early one", p, moves(0, 9, -1, 0, 10, -1, 0, 12, 0), faults(0, api.ShErrEarly, 1, api.ShErrMeet)...)
	judged(t, "both wrong", p, moves(0, 9, -1, 0, 9, -1, -1, -1, 0), faults(0, api.ShErrEarly, 1, api.ShErrEarly, 1, api.ShErrMeet)...)
	judged(t, "turned back", p, moves(-1, -1, 0, 0, 10, -1, -1, -1, 0))
	judged(t, "all turned back", p, moves(-1, -1, 0, -1, -1, 0, -1, -1, 0))
}

// P6.3: a ship is held on the side that it comes from.
func TestP6_3Side(t *testing.T) {
	p := pond(boat("a", 10, 2), inside(boat("b", 30, 2)))
	judged(t, "right", p, moves(0, 12, 0, 0, 32, 1))
	judged(t, "wrong", p, moves(0, 12, 1, 0, 32, 0), faults(0, api.ShErrRoom, 1, api.ShErrRoom)...)
	judged(t, "not held", p, moves(0, 10, -1, 0, 30, -1))
}

// P6.3: there is room for all ships with lesser indices that are held at the same anchorage, at each tick at which the ship is.
func TestP6_3Room(t *testing.T) {
	p := pond(boat("a", 10, 1), boat("b", 20, 1), boat("c", 15, 1))
	p.Anchors = append(p.Anchors, api.ShAnchor{Name: "far", Room: 5000, Turn: 5000})
	p.Ships[0].Length, p.Ships[1].Length, p.Ships[2].Length = 100, 70, 40
	for _, c := range []struct {
		room   int
		a, b   int
		anchor int
		want   []api.ShFault
	}{
		{210, 60, 70, 0, nil},
		{209, 60, 70, 0, faults(2, api.ShErrRoom)},
		{209, 60, 70, 2, nil},
		{170, 60, 70, 2, nil},
		{169, 60, 70, 2, faults(1, api.ShErrRoom)},
		{169, 60, 70, 0, faults(1, api.ShErrRoom, 2, api.ShErrRoom)},
		{99, 60, 70, 0, faults(0, api.ShErrRoom, 1, api.ShErrRoom, 2, api.ShErrRoom)},
		{140, 20, 70, 0, nil},                                        // the first one is away when the second one comes
		{139, 20, 70, 0, faults(2, api.ShErrRoom)},                   // but not when the third one does
		{140, 21, 70, 0, faults(1, api.ShErrRoom, 2, api.ShErrRoom)}, // one tick at which all are there
		{100, 15, 70, 0, faults(2, api.ShErrRoom)},                   // the third one is still there when the second one comes
		{140, 60, 20, 0, nil},                                        // the second one is not held
		{140, 60, 21, 0, faults(1, api.ShErrRoom, 2, api.ShErrRoom)}, // it is for a tick
		{109, 15, 21, 0, faults(2, api.ShErrRoom)},                   // a tick in the midst of those at which the third one is held
		{110, 15, 21, 0, nil},                                        // likewise, with room
		{110, 16, 21, 0, faults(2, api.ShErrRoom)},                   // one at which the first one is still there
		{40, 10, 20, 0, nil},                                         // alone
		{39, 10, 20, 0, faults(2, api.ShErrRoom)},                    // too long alone
		{0, 60, 70, 2, faults(0, api.ShErrRoom, 1, api.ShErrRoom)},   // elsewhere
		{0, 10, 20, 2, nil},                                          // elsewhere alone
		{0, 10, 20, 1, faults(2, api.ShErrRoom)},                     // on the other side
		{5000, 60, 70, 1, faults(2, api.ShErrRoom)},                  // room enough does not help there
	} {
		p.Anchors[0].Room = c.room
		a, b := 0, 0
		if c.a == 10 {
			a = -1
		}
		if c.b == 20 {
			b = -1
		}
		judged(t, c, p, moves(0, c.a, a, 0, c.b, b, 0, 50, c.anchor), c.want...)
	}
}

// P6.3: the room is needed from Ready on, and before Start, however long this is.
func TestP6_3Held(t *testing.T) {
	p := pond(boat("a", 10, 1), boat("b", 0, 1))
	p.Anchors[0].Room = 1
	p.Levels.From = 199901
	for start, full := range map[int]bool{199901: true, 200000: true} {
		judged(t, start, p, moves(0, 199950, 0, 0, start, 0), faults(1, api.ShErrRoom)[:map[bool]int{true: 1}[full]]...)
	}
	p.Ships[0].Ready = 199940
	judged(t, "until it comes", p, moves(0, 199950, 0, 0, 199940, 0))
	judged(t, "one more tick", p, moves(0, 199950, 0, 0, 199941, 0), faults(1, api.ShErrRoom)...)
	p.Ships[1].Ready = 199950
	judged(t, "from where it goes", p, moves(0, 199950, 0, 0, 199960, 0))
	p.Ships[1].Ready = 199949
	judged(t, "one tick before", p, moves(0, 199950, 0, 0, 199960, 0), faults(1, api.ShErrRoom)...)
}

// P6.3: up to three things are wrong with a passage, in their order; only the first one of those that are wrong alone.
func TestP6_3Three(t *testing.T) {
	p := pond(boat("a", 10, 2), boat("b", 9, 2), boat("c", 9, 2))
	p.Openings[0].Shut = shut(0, 100)
	p.Ships[2].Beam = 1
	judged(t, "three", p, moves(0, 10, -1, 0, 10, 1, 0, 10, 1), faults(
		0, api.ShErrShut,
		1, api.ShErrShut, 1, api.ShErrMeet, 1, api.ShErrRoom,
		2, api.ShErrWide, 2, api.ShErrMeet, 2, api.ShErrRoom)...)
}

// P6.3: a ship is turned back where it comes from, at an anchorage where there is place enough to turn.
func TestP6_3Turn(t *testing.T) {
	p := pond(boat("a", 10, 2), inside(boat("b", 10, 2)))
	p.Ships[0].Length = 100
	for turn, right := range map[int]bool{0: false, 99: false, 100: true, 101: true, 5000: true} {
		p.Anchors[0].Turn, p.Anchors[0].Room = turn, 0
		var want []api.ShFault
		if !right {
			want = faults(0, api.ShErrTurn)
		}
		judged(t, turn, p, moves(-1, -1, 0, -1, -1, 1), want...)
	}
	judged(t, "nowhere", p, moves(-1, -1, -1, -1, -1, -1), faults(0, api.ShErrTurn, 1, api.ShErrTurn)...)
	judged(t, "on the other side", p, moves(-1, -1, 1, -1, -1, 0), faults(0, api.ShErrTurn, 1, api.ShErrTurn)...)
	// However many ships turn at an anchorage, it is never full, and a ship that turns takes no room of those that are held.
	p = pond(boat("a", 10, 2), boat("b", 10, 2), boat("c", 10, 2))
	p.Anchors[0] = api.ShAnchor{Name: "out", Room: 1, Turn: 1}
	judged(t, "all at one", p, moves(-1, -1, 0, 0, 20, 0, -1, -1, 0))
}

// P6.3: what a plan is worth are the Values of the ships that pass, and it holds them from Ready until Start.
func TestP6_3Worth(t *testing.T) {
	p := pond(boat("a", 10, 2), boat("b", 10, 2), boat("c", 40, 2))
	p.Ships[0].Value, p.Ships[1].Value, p.Ships[2].Value = 7, 20, 500
	worths(t, "none", p, moves(-1, -1, 0, -1, -1, 0, -1, -1, 0), 0, 0)
	worths(t, "one", p, moves(0, 10, -1, -1, -1, 0, -1, -1, 0), 7, 0)
	worths(t, "one held", p, moves(-1, -1, 0, 0, 11, 0, -1, -1, 0), 20, 1)
	worths(t, "all", p, moves(0, 12, 0, 0, 10, -1, 0, 97, 0), 527, 59)
	p.Ships = nil
	worths(t, "no ships", p, nil, 0, 0)
}
