package ship_test

import (
	"slices"
	"testing"

	"barrage/api"
	"barrage/ship"
)

// P6.4: an order has each index of a ship once.
func TestP6_4Orders(t *testing.T) {
	p := pond(boat("a", 10, 2), boat("b", 20, 2), boat("c", 30, 2))
	right := moves(0, 10, -1, 0, 20, -1, 0, 30, -1)
	for _, a := range append(wild(), -1, 0, 1, 2, 3) {
		for _, b := range append(wild(), -1, 0, 1, 2, 3) {
			for _, c := range ints(-1, 0, 1, 2, 3) {
				l := ints(a, b, c)
				if s := slices.Sorted(slices.Values(l)); slices.Equal(s, ints(0, 1, 2)) {
					planned(t, "right", p, l, right, api.OK)
				} else {
					planned(t, "wrong", p, l, nil, api.ErrArg)
				}
			}
		}
	}
	for _, l := range [][]int{nil, {0}, {0, 1}, {0, 1, 2, 3}, {0, 1, 2, 2}, {0, 1, 2, 0, 1, 2}} {
		planned(t, "not three", p, l, nil, api.ErrArg)
	}
	p.Ships = nil
	planned(t, "no ships", p, nil, nil, api.OK)
	planned(t, "no ships", p, ints(0), nil, api.ErrArg)
	bests(t, "no ships", p, nil, nil, api.OK)
	worths(t, "no ships", p, nil, 0, 0)
}

// P6.4: a ship gets the passage with the least Start, then Opening, then Anchor.
func TestP6_4Least(t *testing.T) {
	p := pond(boat("a", 10, 2))
	p.Openings = append(p.Openings, api.ShOpening{Name: "side"}, api.ShOpening{Name: "third"})
	p.Anchors = append(p.Anchors, api.ShAnchor{Name: "far", Room: 5000, Turn: 5000})
	planned(t, "at once", p, ints(0), moves(0, 10, -1), api.OK)
	p.Openings[0].Shut = shut(11, 12)
	planned(t, "through the next", p, ints(0), moves(1, 10, -1), api.OK)
	p.Openings[1].Shut = shut(0, 11)
	planned(t, "through the third", p, ints(0), moves(2, 10, -1), api.OK)
	p.Openings[2].Shut = shut(0, 100)
	planned(t, "one tick later", p, ints(0), moves(1, 11, 0), api.OK)
	p.Openings[1].Shut = shut(0, 12)
	planned(t, "two ticks later", p, ints(0), moves(0, 12, 0), api.OK)
	p.Anchors[0].Room = 0
	planned(t, "at the next anchorage", p, ints(0), moves(0, 12, 2), api.OK)
	p.Ships[0].Until = 11
	planned(t, "too late", p, ints(0), moves(-1, -1, 0), api.OK)
	p.Anchors[0].Turn = 0
	planned(t, "turned at the next", p, ints(0), moves(-1, -1, 2), api.OK)
	p.Ships[0].Inside = true
	planned(t, "turned inside", p, ints(0), moves(-1, -1, 1), api.OK)
	p.Anchors[1].Turn = 0
	planned(t, "nowhere", p, ints(0), nil, api.ErrDown)
	bests(t, "nowhere", p, nil, nil, api.ErrDown)
	p.Ships[0].Until = 12
	planned(t, "held inside", p, ints(0), moves(0, 12, 1), api.OK)
	p.Anchors = nil
	planned(t, "nowhere to wait", p, ints(0), nil, api.ErrDown)
	p.Openings[0].Shut = nil
	planned(t, "not held", p, ints(0), moves(0, 10, -1), api.OK)
}

// P6.4: a ship waits for levels that are known, as long as there is room for it, and does not begin before it is ready.
func TestP6_4Wait(t *testing.T) {
	p := pond(boat("a", 0, 50))
	p.Levels = api.Series{From: 199857, Values: make([]int, 144)}
	planned(t, "first", p, ints(0), moves(0, 199857, 0), api.OK)
	p.Openings[0].Shut = shut(0, 199951)
	planned(t, "last", p, ints(0), moves(0, 199951, 0), api.OK)
	p.Openings[0].Shut = shut(0, 199952)
	planned(t, "too late", p, ints(0), moves(-1, -1, 0), api.OK)
	p.Openings[0].Shut = nil
	p.Ships[0].Ready = 199951
	planned(t, "ready last", p, ints(0), moves(0, 199951, -1), api.OK)
	p.Ships[0].Ready = 199952
	planned(t, "ready too late", p, ints(0), moves(-1, -1, 0), api.OK)
	p.Ships[0].Ready, p.Ships[0].Pass = 200000, 1
	planned(t, "at the last tick", p, ints(0), moves(0, 200000, -1), api.OK)
	p.Levels = api.Series{Values: ints(0)}
	planned(t, "no level is known any more", p, ints(0), moves(-1, -1, 0), api.OK)
	p.Ships[0].Ready = 0
	planned(t, "at the first tick", p, ints(0), moves(0, 0, -1), api.OK)
}

// P6.4: ships are placed one after the other: one that comes later in the order takes what is left.
func TestP6_4Others(t *testing.T) {
	p := pond(boat("a", 10, 4), boat("b", 10, 2), inside(boat("c", 10, 3)))
	p.Follow, p.Gap = 1, 3
	planned(t, "others", p, ints(0, 1, 2), moves(0, 10, -1, 0, 15, 0, 0, 20, 1), api.OK)
	planned(t, "others", p, ints(1, 0, 2), moves(0, 13, 0, 0, 10, -1, 0, 20, 1), api.OK)
	planned(t, "others", p, ints(2, 0, 1), moves(0, 16, 0, 0, 21, 0, 0, 10, -1), api.OK)
	planned(t, "others", p, ints(0, 2, 1), moves(0, 10, -1, 0, 23, 0, 0, 17, 1), api.OK)
	p.Ships[2].Ready = 20
	planned(t, "between them", p, ints(0, 2, 1), moves(0, 10, -1, 0, 15, 0, 0, 20, -1), api.OK)
	// One that is ready later, but is placed before, is waited for, or passed before.
	p = pond(boat("a", 10, 4), boat("b", 15, 2))
	p.Follow = 1
	planned(t, "before", p, ints(1, 0), moves(0, 10, -1, 0, 15, -1), api.OK)
	p.Ships[0].Pass = 5
	planned(t, "after", p, ints(1, 0), moves(0, 18, 0, 0, 15, -1), api.OK)
	// Room that is taken later on is not free now.
	p = pond(boat("a", 10, 2), boat("b", 5, 2))
	p.Anchors[0].Room = 1
	p.Openings[0].Shut = shut(0, 20)
	planned(t, "full", p, ints(0, 1), moves(0, 20, 0, -1, -1, 0), api.OK)
	planned(t, "full", p, ints(1, 0), moves(-1, -1, 0, 0, 20, 0), api.OK)
	p.Anchors[0].Room = 2
	planned(t, "room", p, ints(0, 1), moves(0, 20, 0, 0, 22, 0), api.OK)
}

// P6.4: an order by which a ship can neither pass nor be turned back has no plan; Best takes another one.
func TestP6_4Down(t *testing.T) {
	p := pond(boat("a", 10, 2), boat("b", 10, 2))
	p.Anchors[0] = api.ShAnchor{Name: "out", Room: 5, Turn: 3}
	p.Ships[0].Length, p.Ships[1].Length = 6, 5
	planned(t, "good", p, ints(0, 1), moves(0, 10, -1, 0, 12, 0), api.OK)
	planned(t, "bad", p, ints(1, 0), nil, api.ErrDown)
	bests(t, "first", p, ints(0, 1), moves(0, 10, -1, 0, 12, 0), api.OK)
	p.Ships[0].Length, p.Ships[1].Length = 5, 6
	bests(t, "second", p, ints(1, 0), moves(0, 12, 0, 0, 10, -1), api.OK)
	p.Ships[0].Length, p.Ships[1].Value = 6, 1000
	planned(t, "neither", p, ints(0, 1), nil, api.ErrDown)
	bests(t, "neither", p, nil, nil, api.ErrDown)
}

// P6.4: the best order has the greatest worth, then the least holding, then comes first.
func TestP6_4Best(t *testing.T) {
	p := pond(boat("a", 10, 4), boat("b", 10, 2), boat("c", 10, 3))
	bests(t, "least holding", p, ints(1, 2, 0), moves(0, 15, 0, 0, 10, -1, 0, 12, 0), api.OK)
	p.Ships[1].Pass, p.Ships[2].Pass = 4, 4
	bests(t, "first", p, ints(0, 1, 2), moves(0, 10, -1, 0, 14, 0, 0, 18, 0), api.OK)
	p.Openings[0].Shut = shut(18, 200000)
	p.Ships[0].Value = 2
	bests(t, "two of them", p, ints(0, 1, 2), moves(0, 10, -1, 0, 14, 0, -1, -1, 0), api.OK)
	p.Ships[2].Value = 3
	bests(t, "first and last", p, ints(0, 2, 1), moves(0, 10, -1, -1, -1, 0, 0, 14, 0), api.OK)
	p.Ships[1].Value = 4
	bests(t, "all but the first", p, ints(1, 2, 0), moves(-1, -1, 0, 0, 10, -1, 0, 14, 0), api.OK)
	p.Openings[0].Shut = shut(14, 200000)
	bests(t, "one of them", p, ints(1, 0, 2), moves(-1, -1, 0, 0, 10, -1, -1, -1, 0), api.OK)
	p.Ships[0].Value, p.Ships[1].Value, p.Ships[2].Value = 0, 0, 0
	bests(t, "worth nothing", p, ints(0, 1, 2), moves(0, 10, -1, -1, -1, 0, -1, -1, 0), api.OK)
	p.Openings[0].Shut = shut(0, 200000)
	bests(t, "none", p, ints(0, 1, 2), moves(-1, -1, 0, -1, -1, 0, -1, -1, 0), api.OK)
}

// P6.4: what a plan is worth counts more than for how long it holds ships.
func TestP6_4WorthFirst(t *testing.T) {
	p := pond(boat("a", 10, 1), boat("b", 10, 50))
	p.Ships[1].Value = 0
	bests(t, "holding for 1", p, ints(0, 1), moves(0, 10, -1, 0, 11, 0), api.OK)
	p.Ships[0].Until = 10
	p.Ships[1].Ready = 5
	bests(t, "between", p, ints(0, 1), moves(0, 10, -1, 0, 11, 0), api.OK)
	p.Ships[0].Value, p.Ships[1].Value = 0, 1
	bests(t, "as much", p, ints(1, 0), moves(-1, -1, 0, 0, 5, -1), api.OK)
	p.Ships[0].Value = 1
	bests(t, "both", p, ints(0, 1), moves(0, 10, -1, 0, 11, 0), api.OK)
}

// P6.4: all orders are tried, in their order.
func TestP6_4All(t *testing.T) {
	var l []api.ShShip
	for i := range 5 {
		l = append(l, boat(label(i), 10, 5-i))
	}
	p := pond(l...)
	bests(t, "the shortest first", p, ints(4, 3, 2, 1, 0), moves(0, 20, 0, 0, 16, 0, 0, 13, 0, 0, 11, 0, 0, 10, -1), api.OK)
	for _, order := range [][]int{{0, 1, 2, 3, 4}, {4, 0, 3, 1, 2}, {2, 4, 1, 3, 0}, {1, 3, 0, 2, 4}, {3, 2, 4, 0, 1}} {
		for i, n := range order {
			p.Ships[n].Pass = i + 1
		}
		o, _, e := ship.Best(p)
		if !slices.Equal(o, order) || e != api.OK {
			t.Errorf("%v, %d; not %v", o, e, order)
		}
	}
}
