package surge_test

import (
	"slices"
	"testing"

	"barrage/api"
	"barrage/surge"
)

// boxes tests which boxes there are at the tick 100.
func boxes(t *testing.T, what any, x api.SgTask, want ...api.SgBox) {
	t.Helper()
	need(t, x)
	if l, e := surge.Boxes(x, 100); !same(l, want) || e != api.OK {
		t.Errorf("%v: %v, %d; not %v", what, l, e, want)
	}
}

// members returns the Members of the boxes that there are at the tick 100.
func members(t *testing.T, x api.SgTask) [][]int {
	t.Helper()
	need(t, x)
	l, e := surge.Boxes(x, 100)
	if e != api.OK {
		t.Errorf("%+v: %d", x, e)
	}
	var out [][]int
	for _, b := range l {
		out = append(out, b.Members)
	}
	return out
}

// P2.4: spans are tightened in both directions, over several ticks, and are empty if nothing is left.
func TestP2_4Tightened(t *testing.T) {
	far := func(values ...int) api.SgTask {
		x := calm(1)
		x.Ticks, x.Rate, x.Quorum = 5, 10, 1
		says(&x, 0, values)
		return x
	}
	boxes(t, "from the first tick", far(500), box(ints(0), ints(500, 490, 480, 470, 460), ints(500, 510, 520, 530, 540)))
	x := far(500)
	x.Forecasts[0].From = 104
	boxes(t, "from the last tick", x, box(ints(0), ints(460, 470, 480, 490, 500), ints(540, 530, 520, 510, 500)))
	x.Forecasts[0].From = 102
	boxes(t, "from the middle", x, box(ints(0), ints(480, 490, 500, 490, 480), ints(520, 510, 500, 510, 520)))
	boxes(t, "just so", far(0, 10, 20, 10, 0), box(ints(0), ints(0, 10, 20, 10, 0), ints(0, 10, 20, 10, 0)))
	boxes(t, "too steep", far(0, 10, 21, 10, 0))
	boxes(t, "too steep down", far(0, 10, -1))
	y := far(0)
	y.Centres, y.Quorum = append(y.Centres, api.SgCentre{Name: "b"}), 2
	y.Forecasts = append(y.Forecasts, api.SgForecast{Centre: 1, From: 104, Members: [][]int{{40}, {41}, {-40}, {-41}}})
	boxes(t, "far apart", y, box(ints(0, 0), ints(0, 10, 20, 30, 40), ints(0, 10, 20, 30, 40)), box(ints(0, 2), ints(0, -10, -20, -30, -40), ints(0, -10, -20, -30, -40)))
	x = far(995)
	boxes(t, "up to Most", x, box(ints(0), ints(995, 985, 975, 965, 955), ints(995, 1000, 1000, 1000, 1000)))
	x = far(1001)
	boxes(t, "above Most", x)
	x.Centres[0].Base = 1
	boxes(t, "above Most, perhaps", x, box(ints(0), ints(1000, 990, 980, 970, 960), ints(1000, 1000, 1000, 1000, 1000)))
	one := far(5)
	one.Ticks = 1
	boxes(t, "a tick alone", one, box(ints(0), ints(5), ints(5)))
}

// P2.4: as many centres as needed are chosen, of those that have a current forecast, in the order of Members.
func TestP2_4Choices(t *testing.T) {
	x := calm(4)
	says(&x, 3, ints(1), ints(2))
	says(&x, 0, ints(1), ints(2), ints(3))
	says(&x, 2, ints(1))
	x.Centres[0].Base, x.Centres[2].Base, x.Centres[3].Base = 100, 100, 100
	for quorum, want := range map[int][][]int{
		0: {{-1, -1, -1, -1}},
		1: {{-1, -1, -1, 0}, {-1, -1, -1, 1}, {-1, -1, 0, -1}, {0, -1, -1, -1}, {1, -1, -1, -1}, {2, -1, -1, -1}},
		2: {{-1, -1, 0, 0}, {-1, -1, 0, 1}, {0, -1, -1, 0}, {0, -1, -1, 1}, {0, -1, 0, -1}, {1, -1, -1, 0}, {1, -1, -1, 1}, {1, -1, 0, -1}, {2, -1, -1, 0}, {2, -1, -1, 1}, {2, -1, 0, -1}},
		3: {{0, -1, 0, 0}, {0, -1, 0, 1}, {1, -1, 0, 0}, {1, -1, 0, 1}, {2, -1, 0, 0}, {2, -1, 0, 1}},
		4: {{0, -1, 0, 0}, {0, -1, 0, 1}, {1, -1, 0, 0}, {1, -1, 0, 1}, {2, -1, 0, 0}, {2, -1, 0, 1}}, // the centre 1 has none
	} {
		x.Quorum = quorum
		if l := members(t, x); !same(l, want) {
			t.Errorf("%d: %v; not %v", quorum, l, want)
		}
	}
	x.Quorum = 2
	x.Centres[0].Late, x.Centres[3].Late = 101, 100
	if l := members(t, x); !same(l, [][]int{{-1, -1, 0, 0}, {-1, -1, 0, 1}}) {
		t.Errorf("0 is too late: %v", l)
	}
	x.Centres[2].Late, x.Centres[3].Late = 101, 101
	if l := members(t, x); !same(l, [][]int{{-1, -1, -1, -1}}) {
		t.Errorf("all are too late: %v", l)
	}
	full := calm(4)
	full.Quorum = 2
	for i := range full.Centres {
		says(&full, i, ints(1), ints(1), ints(1), ints(1))
	}
	if l := members(t, full); len(l) != 6*4*4 || !slices.IsSortedFunc(l, slices.Compare[[]int]) {
		t.Errorf("%d choices of two of four centres: %v", len(l), l)
	}
	boxes(t, "no centres", calm(0), api.SgBox{Low: at(-1000, -1000, -1000), High: at(1000, 1000, 1000)})
}

// P2.4: all members that are chosen count, together, and empty boxes are left out.
func TestP2_4Common(t *testing.T) {
	x := calm(2)
	x.Rate, x.Quorum = 1000, 2
	x.Centres[0].Base, x.Centres[1].Base = 10, 20
	says(&x, 0, ints(0, 100, 200), ints(0, 0, 0), ints(900, 900, 900))
	says(&x, 1, ints(25, 75, 230), ints(-30, 30, 0), ints(31, 0, 0))
	boxes(t, "two of two", x,
		box(ints(0, 0), ints(5, 90, 210), ints(10, 95, 210)),
		box(ints(1, 1), ints(-10, 10, -10), ints(-10, 10, 10)))
	x.Quorum = 1
	boxes(t, "one of two", x,
		box(ints(-1, 0), ints(5, 55, 210), ints(45, 95, 250)),
		box(ints(-1, 1), ints(-50, 10, -20), ints(-10, 50, 20)),
		box(ints(-1, 2), ints(11, -20, -20), ints(51, 20, 20)),
		box(ints(0, -1), ints(-10, 90, 190), ints(10, 110, 210)),
		box(ints(1, -1), ints(-10, -10, -10), ints(10, 10, 10)),
		box(ints(2, -1), ints(890, 890, 890), ints(910, 910, 910)))
	x.Most = 899
	boxes(t, "up to 899", x,
		box(ints(-1, 0), ints(5, 55, 210), ints(45, 95, 250)),
		box(ints(-1, 1), ints(-50, 10, -20), ints(-10, 50, 20)),
		box(ints(-1, 2), ints(11, -20, -20), ints(51, 20, 20)),
		box(ints(0, -1), ints(-10, 90, 190), ints(10, 110, 210)),
		box(ints(1, -1), ints(-10, -10, -10), ints(10, 10, 10)),
		box(ints(2, -1), ints(890, 890, 890), ints(899, 899, 899)))
	x.Forecasts[0].Members, x.Forecasts[1].Members = [][]int{{910, 910, 910}}, [][]int{{0, 920}}
	boxes(t, "none at all", x)
	x.Forecasts[0].Members = [][]int{{909, 909, 909}}
	boxes(t, "none of the second", x, box(ints(0, -1), ints(899, 899, 899), ints(899, 899, 899)))
}

// P2.4: of the highest histories of boxes those are left out that another one makes needless.
func TestP2_4Possible(t *testing.T) {
	for i, c := range []struct{ first, second, want [][]int }{
		{[][]int{{1, 1, 1}}, nil, [][]int{{1, 1, 1}}},
		{[][]int{{1, 1, 1}, {1, 1, 1}, {1, 1, 1}}, [][]int{{1, 1, 1}}, [][]int{{1, 1, 1}}},
		{[][]int{{1, 2, 3}, {3, 2, 1}}, nil, [][]int{{1, 2, 3}, {3, 2, 1}}},
		{[][]int{{3, 2, 1}, {1, 2, 3}}, nil, [][]int{{3, 2, 1}, {1, 2, 3}}},
		{[][]int{{3, 2, 1}}, [][]int{{1, 2, 3}}, [][]int{{1, 2, 3}, {3, 2, 1}}}, // the second centre's come first
		{[][]int{{3, 2, 1}, {3, 2, 0}}, [][]int{{1, 2, 3}, {0, 2, 3}}, [][]int{{1, 2, 3}, {3, 2, 1}}},
		{[][]int{{3, 2, 0}, {3, 2, 1}}, [][]int{{1, 1, 3}, {1, 2, 3}}, [][]int{{1, 2, 3}, {3, 2, 1}}},
		{[][]int{{5, 5, 5}, {1, 2, 3}}, [][]int{{3, 2, 1}, {5, 5, 4}}, [][]int{{5, 5, 5}}},
		{[][]int{{5, 5, 5}, {5, 5, 6}}, [][]int{{5, 5, 5}, {6, 5, 5}}, [][]int{{6, 5, 5}, {5, 5, 6}}},
		{[][]int{{1, 2, 3}, {2, 3, 1}, {3, 1, 2}}, [][]int{{1, 2, 3}, {3, 1, 2}}, [][]int{{1, 2, 3}, {3, 1, 2}, {2, 3, 1}}},
		{[][]int{{999, 999, 999}}, [][]int{{-999, -999, 1001}}, [][]int{{999, 999, 999}}},
	} {
		x := calm(2)
		x.Quorum = 1
		says(&x, 0, c.first...)
		if len(c.second) > 0 {
			says(&x, 1, c.second...)
		}
		need(t, x)
		var want []api.Series
		for _, values := range c.want {
			want = append(want, at(values...))
		}
		if l, e := surge.Possible(x, 100); !same(l, want) || e != api.OK {
			t.Errorf("%d: %v, %d; not %v", i, l, e, want)
		}
	}
	x := calm(1)
	x.Quorum = 1
	says(&x, 0, ints(1001))
	if l, e := surge.Possible(x, 100); len(l) != 0 || e != api.OK {
		t.Errorf("without boxes: %v, %d", l, e)
	}
	if l, e := surge.Possible(calm(0), 100); !same(l, []api.Series{at(1000, 1000, 1000)}) || e != api.OK {
		t.Errorf("without centres: %v, %d", l, e)
	}
}

// P2.5: between which levels all histories are, and the highest level of each.
func TestP2_5Envelope(t *testing.T) {
	x := calm(2)
	x.Quorum = 1
	for i, c := range []struct {
		first, second [][]int
		base          int
		low, high     []int
		peak          api.Span
		e             api.Errno
	}{
		{[][]int{{1, 2, 3}}, nil, 0, ints(1, 2, 3), ints(1, 2, 3), sp(3, 3), api.OK},
		{[][]int{{1, 2, 3}}, nil, 5, ints(-4, -3, -2), ints(6, 7, 8), sp(-2, 8), api.OK},
		{[][]int{{1, 5, 3}, {4, 2, 0}}, [][]int{{9, -9, 2}}, 0, ints(1, -9, 0), ints(9, 5, 3), sp(4, 9), api.OK},
		{[][]int{{1, 5, 3}, {4, 2, 0}}, [][]int{{2, 6, 1}}, 1, ints(0, 1, -1), ints(5, 7, 4), sp(3, 7), api.OK},
		{[][]int{{1, 5, 3}, {0, -1, -2}}, [][]int{{-5, -5, -3}, {-4, -1, -9}}, 0, ints(-5, -5, -9), ints(1, 5, 3), sp(-3, 5), api.OK},
		{[][]int{{1, 5, 2000}}, [][]int{{-5, -5, -2000}}, 0, nil, nil, sp(0, 0), api.ErrDown},
		{[][]int{{1, 5, 2000}}, [][]int{{-5, -5, -200}}, 0, nil, nil, sp(0, 0), api.ErrDown}, // too steep
		{[][]int{{1, 5, 2000}}, [][]int{{-5, -5, -105}}, 0, ints(-5, -5, -105), ints(-5, -5, -105), sp(-5, -5), api.OK},
	} {
		x.Forecasts = nil
		says(&x, 0, c.first...)
		if len(c.second) > 0 {
			says(&x, 1, c.second...)
		}
		x.Centres[0].Base, x.Centres[1].Base = c.base, c.base
		need(t, x)
		var wantLow, wantHigh api.Series
		if c.e == api.OK {
			wantLow, wantHigh = at(c.low...), at(c.high...)
		}
		if low, high, e := surge.Envelope(x, 100); !same(low, wantLow) || !same(high, wantHigh) || e != c.e {
			t.Errorf("%d: %v, %v, %d; not %v, %v", i, low, high, e, wantLow, wantHigh)
		}
		if s, e := surge.Peak(x, 100); s != c.peak || e != c.e {
			t.Errorf("%d: %v, %d; not %v", i, s, e, c.peak)
		}
	}
	for mean, want := range map[int]api.Span{20000: sp(20000, 20000), -20000: sp(-20000, -20000)} {
		y := calm(0)
		y.Table.Mean, y.Least, y.Most = mean, 0, 0
		if s, e := surge.Peak(y, 100); s != want || e != api.OK {
			t.Errorf("%d: %v, %d", mean, s, e)
		}
	}
}

// P2.6: what is a history of the task.
func TestP2_6Arg(t *testing.T) {
	x := coast()
	for i, c := range []struct {
		s api.Series
		e api.Errno
	}{
		{at(0, 0, 0), api.OK}, {at(20000, -20000, 20000), api.OK}, {at(20001, 0, 0), api.ErrArg}, {at(0, 0, 20001), api.ErrArg}, {at(-20001, 0, 0), api.ErrArg}, {at(0, -20001, 0), api.ErrArg},
		{at(0, 0), api.ErrArg}, {at(0, 0, 0, 0), api.ErrArg}, {at(), api.ErrArg}, {api.Series{From: 99, Values: ints(0, 0, 0)}, api.ErrArg}, {api.Series{From: 101, Values: ints(0, 0, 0)}, api.ErrArg},
		{api.Series{From: 101, Values: ints(0, 0)}, api.ErrArg}, {api.Series{From: -1, Values: ints(0, 0, 0)}, api.ErrArg}, {api.Series{}, api.ErrArg},
	} {
		l, e1 := surge.Right(x, 95, c.s)
		is, e2 := surge.Is(x, 95, c.s)
		if e1 != c.e || e2 != c.e || e1 == api.OK && len(l) != 2 || e1 != api.OK && len(l) != 0 || is {
			t.Errorf("%d: %v, %d; %v, %d; not %d", i, l, e1, is, e2, c.e)
		}
	}
	for _, n := range wild() {
		for _, s := range []api.Series{{From: n, Values: ints(0, 0, 0)}, at(n, 0, 0), at(0, 0, n)} {
			if _, e := surge.Is(x, 95, s); (e != api.ErrArg) != (s.From == 100 && n == -1) {
				t.Errorf("%v: %d", s, e)
			}
		}
	}
}

// P2.6: which centres are right for a history, and whether it is possible.
func TestP2_6Right(t *testing.T) {
	x := calm(3)
	x.Most, x.Least = 500, -500
	x.Centres[0].Base = 10
	says(&x, 0, ints(0, 0, 0), ints(100, 200, 300))
	says(&x, 1, ints(10, 10), ints(90, 190))
	for i, c := range []struct {
		values []int
		right  []bool
		is     [3]bool // with the quorums 0, 1 and 2; 3 is as 2
	}{
		{ints(0, 0, 0), []bool{true, false, false}, [3]bool{true, true, false}},
		{ints(10, 10, 10), []bool{true, true, false}, [3]bool{true, true, true}},
		{ints(10, 10, -10), []bool{true, true, false}, [3]bool{true, true, true}},
		{ints(10, 10, 11), []bool{false, true, false}, [3]bool{true, true, false}},
		{ints(10, 10, 110), []bool{false, true, false}, [3]bool{true, true, false}},
		{ints(10, 10, 111), []bool{false, true, false}, [3]bool{}},
		{ints(10, 10, -91), []bool{false, true, false}, [3]bool{}},
		{ints(90, 190, 290), []bool{true, true, false}, [3]bool{true, true, true}},
		{ints(90, 190, 310), []bool{true, true, false}, [3]bool{}},
		{ints(90, 10, 10), []bool{false, false, false}, [3]bool{true, false, false}},
		{ints(500, 500, 500), []bool{false, false, false}, [3]bool{true, false, false}},
		{ints(500, 501, 500), []bool{false, false, false}, [3]bool{}},
		{ints(-500, -500, -500), []bool{false, false, false}, [3]bool{true, false, false}},
		{ints(-501, -500, -500), []bool{false, false, false}, [3]bool{}},
		{ints(0, 5, 310), []bool{false, false, false}, [3]bool{}},
	} {
		for quorum := range 4 {
			x.Quorum = quorum
			need(t, x)
			l, e := surge.Right(x, 100, at(c.values...))
			if !slices.Equal(l, c.right) || e != api.OK {
				t.Errorf("%d: %v, %d; not %v", i, l, e, c.right)
			}
			is, e := surge.Is(x, 100, at(c.values...))
			if is != c.is[min(quorum, 2)] || e != api.OK {
				t.Errorf("%d, %d needed: %v, %d", i, quorum, is, e)
			}
		}
	}
	if l, e := surge.Right(calm(0), 100, at(0, 0, 0)); len(l) != 0 || e != api.OK {
		t.Errorf("without centres: %v, %d", l, e)
	}
}

// P2.7: which of the highest histories of a tick are ruled out at another one, and which centres cannot be right.
func TestP2_7Ruled(t *testing.T) {
	x := calm(2)
	x.Quorum = 1
	says(&x, 0, ints(1, 2, 3), ints(3, 2, 1), ints(2, 3, 2))
	says(&x, 1, ints(1, 2, 3))
	x.Forecasts = append(x.Forecasts, api.SgForecast{Centre: 0, Issued: 50, From: 100, Members: [][]int{{0, 0, 0}, {2, 3, 2}}})
	x.Forecasts = append(x.Forecasts, api.SgForecast{Centre: 1, Issued: 60, From: 100, Members: [][]int{{3, 2, 1}, {2000, 2000, 2000}}})
	x.Gauges = []api.TdGauge{gauge("pier", 70, 20)}
	for i, c := range []struct {
		then, now int
		want      []int
	}{
		{0, 0, nil}, {0, 49, nil}, {0, 50, ints(1)}, {0, 59, ints(1)}, {0, 60, ints(0)}, {0, 70, ints(0)},
		{50, 0, nil}, {50, 50, nil}, {50, 60, ints(0)}, {60, 50, ints(0)}, {60, 60, nil}, {60, 0, nil}, {70, 0, nil},
	} {
		if l, e := surge.Ruled(x, c.then, c.now); !same(l, c.want) || e != api.OK {
			t.Errorf("%d: %v, %d; not %v", i, l, e, c.want)
		}
	}
	x.Gauges = []api.TdGauge{gauge("pier", 100, 20)}
	if l, e := surge.Ruled(x, 60, 100); !same(l, ints(0, 1)) || e != api.OK {
		t.Errorf("by the gauge: %v, %d", l, e)
	}
	if l, e := surge.Ruled(x, 100, 60); len(l) != 0 || e != api.OK {
		t.Errorf("without boxes: %v, %d", l, e)
	}
}

// P2.7: centres that cannot be right.
func TestP2_7Suspects(t *testing.T) {
	for i, c := range []struct {
		members [][]int
		want    []int
	}{
		{[][]int{{0}}, nil}, {[][]int{{1000}}, nil}, {[][]int{{1001}}, ints(1)}, {[][]int{{-1001}}, ints(1)}, {[][]int{{0, 0, -1001}}, ints(1)},
		{[][]int{{1001}, {0}}, nil}, {[][]int{{0}, {1001}}, nil}, {[][]int{{1001}, {1002}}, ints(1)},
		{[][]int{{0, 100, 0}}, nil}, {[][]int{{0, 101, 0}}, ints(1)}, {[][]int{{0, 101, 0}, {0, -101, 0}}, ints(1)}, {[][]int{{0, 101, 0}, {0, -100, 0}}, nil},
		{nil, nil},
	} {
		for quorum := range 4 {
			x := calm(3)
			x.Quorum = quorum
			says(&x, 0, ints(-1000, -1000, -1000)) // this centre and the next one may disagree
			if c.members != nil {
				says(&x, 1, c.members...)
			}
			need(t, x)
			if l, e := surge.Suspects(x, 100); !same(l, c.want) || e != api.OK {
				t.Errorf("%d, %d needed: %v, %d; not %v", i, quorum, l, e, c.want)
			}
			x.Centres[1].Late = 101
			if l, e := surge.Suspects(x, 100); len(l) != 0 || e != api.OK {
				t.Errorf("%d, not known yet: %v, %d", i, l, e)
			}
		}
	}
	x := calm(3)
	x.Centres[2].Late = 101
	x.Table, x.Least, x.Most = api.TdTable{Mean: 20000, Consts: []api.TdConst{{Name: "n", Heights: ints(1, 2), Step: 1, Den: 1}}}, 0, 0
	for i := range x.Centres {
		says(&x, i, ints(0, 0, 0))
	}
	need(t, x)
	if l, e := surge.Suspects(x, 100); !same(l, ints(0, 1)) || e != api.OK {
		t.Errorf("without a base: %v, %d", l, e)
	}
}
