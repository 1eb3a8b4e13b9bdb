package ship_test

import (
	"testing"

	"barrage/api"
	"barrage/ship"
)

// P6.5: no such opening comes before a tick that is none.
func TestP6_5Arguments(t *testing.T) {
	p := full()
	plan := moves(-1, -1, 0, 0, 12, -1, -1, -1, 0)
	for _, opening := range append(wild(), -1, 0, 1, 2) {
		for _, tick := range append(wild(), -1, 0, 5, 200000, 200001) {
			want := api.OK
			switch {
			case opening != 0 && opening != 1:
				want = api.ErrNone
			case tick < 0 || tick > 200000:
				want = api.ErrRange
			}
			n, e := ship.In(p, plan, opening, tick)
			m, f := ship.Free(p, plan, opening, tick)
			if e != want || f != want || e != api.OK && (n != 0 || m != 0) {
				t.Errorf("%d at %d: %d, %d; %d, %d", opening, tick, n, e, m, f)
			}
		}
	}
}

// P6.5: which ship is in an opening, whatever is wrong with its passage, and when no passage is for a tick any more.
func TestP6_5Ticks(t *testing.T) {
	p := pond(boat("a", 10, 4), boat("b", 10, 3), boat("c", 10, 2), boat("d", 10, 50))
	p.Openings = append(p.Openings, api.ShOpening{Name: "side", Shut: shut(0, 200000)})
	p.Margin = 2
	plan := moves(0, 20, 0, 0, 10, -1, 1, 5, -1, -1, -1, 0)
	for tick := range 40 {
		ship, until := -1, tick
		switch {
		case 20 <= tick && tick < 24:
			ship = 0
		case 10 <= tick && tick < 13:
			ship = 1
		}
		switch {
		case 20 <= tick && tick < 26:
			until = 26
		case 10 <= tick && tick < 15:
			until = 15
		}
		in(t, "main", p, plan, 0, tick, ship)
		free(t, "main", p, plan, 0, tick, until)
		ship, until = -1, tick
		if 5 <= tick && tick < 7 {
			ship = 2
		}
		if 5 <= tick && tick < 9 {
			until = 9
		}
		in(t, "side", p, plan, 1, tick, ship)
		free(t, "side", p, plan, 1, tick, until)
	}
}

// P6.5: ships that follow each other closely, in any order of their indices, or are in the opening at once.
func TestP6_5Chain(t *testing.T) {
	p := pond(boat("a", 10, 4), boat("b", 10, 3), boat("c", 10, 2), boat("d", 10, 3), boat("e", 10, 10))
	p.Margin = 1
	plan := moves(0, 20, 0, 0, 13, 0, 0, 17, 0, 0, 10, -1, -1, -1, 0)
	free(t, "chain", p, plan, 0, 9, 9)
	free(t, "chain", p, plan, 0, 10, 25)
	free(t, "chain", p, plan, 0, 17, 25)
	free(t, "chain", p, plan, 0, 24, 25)
	free(t, "chain", p, plan, 0, 25, 25)
	plan = moves(0, 20, 0, 0, 13, 0, 0, 18, 0, 0, 10, -1, -1, -1, 0)
	free(t, "with a tick between", p, plan, 0, 10, 17)
	free(t, "with a tick between", p, plan, 0, 18, 25)
	plan = moves(0, 13, 0, 0, 12, 0, 0, 14, 0, 0, 11, 0, 0, 10, -1)
	free(t, "at once", p, plan, 0, 10, 21)
	for tick, want := range map[int]int{9: -1, 10: 4, 11: 3, 12: 1, 13: 0, 16: 0, 17: 4, 19: 4, 20: -1} {
		in(t, "at once", p, plan, 0, tick, want)
	}
	plan = moves(0, 10, -1, 0, 11, 0, -1, -1, 0, -1, -1, 0, 0, 5, -1)
	free(t, "the longest first", p, plan, 0, 6, 16)
	plan = moves(0, 5, -1, 0, 5, -1, 0, 5, -1, 0, 5, -1, 0, 5, -1)
	free(t, "all at the same tick", p, plan, 0, 5, 16)
}

// P6.5: the tick from which an opening may be shut may be behind the last one of all.
func TestP6_5Behind(t *testing.T) {
	p := pond(boat("a", 199999, 50), boat("b", 199999, 1))
	p.Margin = 50
	plan := moves(0, 200000, 0, -1, -1, 0)
	free(t, "behind", p, plan, 0, 200000, 200100)
	free(t, "before", p, plan, 0, 199999, 199999)
	in(t, "last", p, plan, 0, 200000, 0)
	p.Ships = nil
	free(t, "no ships", p, nil, 0, 200000, 200000)
	in(t, "no ships", p, nil, 0, 200000, -1)
}

// P6.6: a tick that is none.
func TestP6_6Arguments(t *testing.T) {
	p := full()
	plan := moves(-1, -1, 0, 0, 12, -1, -1, -1, 0)
	for _, now := range append(wild(), -1, 200001) {
		replanned(t, "no tick", p, plan, now, nil, api.ErrRange)
	}
	replanned(t, "all", p, plan, 0, moves(0, 10, -1, -1, -1, 1, -1, -1, 0), api.OK)
}

// P6.6: ships that have begun to pass keep their passages, whatever is wrong with them; all others begin later than now.
func TestP6_6Begun(t *testing.T) {
	p := pond(boat("a", 10, 4), boat("b", 10, 4), boat("c", 12, 4))
	plan := moves(0, 10, -1, 0, 14, 0, 0, 18, 0)
	replanned(t, "none has begun", p, plan, 9, plan, api.OK)
	replanned(t, "one has", p, plan, 10, plan, api.OK)
	p.Openings[0].Shut = shut(15, 20)
	replanned(t, "one has begun", p, plan, 10, moves(0, 10, -1, 0, 20, 0, 0, 24, 0), api.OK)
	replanned(t, "one is still to begin", p, plan, 13, moves(0, 10, -1, 0, 20, 0, 0, 24, 0), api.OK)
	replanned(t, "two have begun", p, plan, 14, moves(0, 10, -1, 0, 14, 0, 0, 20, 0), api.OK)
	replanned(t, "all have", p, plan, 18, plan, api.OK)
	replanned(t, "at the last tick", p, plan, 200000, plan, api.OK)
	// All that begin have to begin after now, too if they were turned back before, or had to begin before.
	p.Openings[0].Shut = nil
	back := moves(-1, -1, 0, 0, 14, 0, -1, -1, 1)
	replanned(t, "turned back", p, back, 9, moves(0, 10, -1, 0, 14, 0, 0, 18, 0), api.OK)
	replanned(t, "turned back", p, back, 10, moves(0, 11, 0, 0, 15, 0, 0, 19, 0), api.OK)
	replanned(t, "turned back", p, back, 14, moves(0, 18, 0, 0, 14, 0, 0, 22, 0), api.OK)
	replanned(t, "no time is left", p, back, 96, moves(-1, -1, 0, 0, 14, 0, -1, -1, 0), api.OK)
	p.Ships[2].Pass = 3
	replanned(t, "the last chance", p, back, 96, moves(-1, -1, 0, 0, 14, 0, 0, 97, 0), api.OK)
	// A ship that is ready now is held for a tick, one that is ready at the next tick is not.
	p = pond(boat("a", 10, 4), boat("b", 11, 4))
	plan = moves(-1, -1, 0, -1, -1, 0)
	replanned(t, "ready now", p, plan, 10, moves(0, 11, 0, 0, 15, 0), api.OK)
	replanned(t, "ready next", p, plan, 9, moves(0, 10, -1, 0, 14, 0), api.OK)
}

// P6.6: what is wrong with passages that have begun is not put right, and hinders others no more than that.
func TestP6_6Wrong(t *testing.T) {
	p := pond(boat("a", 10, 4), boat("b", 10, 4), boat("c", 30, 4))
	p.Openings[0].Shut = shut(0, 15)
	p.Anchors[0].Room = 1
	plan := moves(0, 9, -1, 0, 12, 1, -1, -1, 1)
	judged(t, "wrong", p, plan, faults(0, api.ShErrEarly, 1, api.ShErrShut, 1, api.ShErrMeet, 1, api.ShErrRoom, 2, api.ShErrTurn)...)
	replanned(t, "wrong", p, plan, 12, moves(0, 9, -1, 0, 12, 1, 0, 30, -1), api.OK)
	replanned(t, "wrong", p, plan, 11, moves(0, 9, -1, 0, 15, 0, 0, 30, -1), api.OK)
	// Ships that have begun take the place that they have, where it is not theirs, too.
	p = pond(boat("a", 10, 4), inside(boat("b", 8, 1)))
	p.Anchors[0].Room, p.Anchors[1].Room = 1, 1
	replanned(t, "in its place", p, moves(0, 12, 1, -1, -1, 1), 12, moves(0, 12, 1, -1, -1, 1), api.OK)
	replanned(t, "in no other one", p, moves(0, 12, 0, -1, -1, 1), 12, moves(0, 12, 0, 0, 16, 1), api.OK)
}

// P6.6: a ship that can neither pass nor be turned back.
func TestP6_6Down(t *testing.T) {
	p := pond(boat("a", 10, 4), boat("b", 10, 4))
	p.Anchors[0].Turn = 0
	p.Ships[1].Until = 16
	plan := moves(0, 10, -1, 0, 14, 0)
	replanned(t, "in time", p, plan, 13, plan, api.OK)
	p.Openings[0].Shut = shut(14, 16)
	replanned(t, "still in time", p, plan, 13, moves(0, 10, -1, 0, 16, 0), api.OK)
	p.Openings[0].Shut = shut(14, 17)
	replanned(t, "not in time", p, plan, 13, nil, api.ErrDown)
	replanned(t, "it has begun", p, plan, 14, plan, api.OK)
	p.Ships = nil
	replanned(t, "no ships", p, nil, 14, nil, api.OK)
}

// P6.6: those that pass by one plan and are turned back by another one, the last one first.
func TestP6_6Turned(t *testing.T) {
	p := pond(boat("a", 10, 4), boat("b", 10, 4), boat("c", 10, 4), boat("d", 10, 4))
	pass := moves(0, 5, -1, 0, 11, 1, 0, 10, -1, 0, 12, 0)
	back := moves(-1, -1, -1, -1, -1, 0, -1, -1, 1, -1, -1, 0)
	turned(t, "all", p, pass, back, 3, 2, 1, 0)
	turned(t, "none", p, back, pass)
	turned(t, "pass", p, pass, pass)
	turned(t, "back", p, back, back)
	mixed := moves(-1, -1, 0, 0, 11, 1, -1, -1, 1, 0, 50, 0)
	turned(t, "some", p, pass, mixed, 2, 0)
	turned(t, "some", p, mixed, back, 3, 1)
	turned(t, "some", p, mixed, pass)
	p.Ships = nil
	turned(t, "no ships", p, nil, nil)
}
