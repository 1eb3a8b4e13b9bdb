package surge_test

import (
	"slices"
	"testing"

	"barrage/api"
	"barrage/surge"
)

// P2.2: which forecasts count.
func TestP2_2Current(t *testing.T) {
	x := calm(3)
	x.Centres[0].Late, x.Centres[1].Late = 10, 1000
	for _, f := range [][2]int{{0, 60}, {0, 40}, {0, 50}, {1, 0}, {0, 41}, {1, 199000}, {1, 199001}} {
		x.Forecasts = append(x.Forecasts, api.SgForecast{Centre: f[0], Issued: f[1], Members: [][]int{{0}}})
	}
	need(t, x)
	for now, want := range map[int][]int{
		0: {-1, -1, -1}, 49: {-1, -1, -1}, 50: {1, -1, -1}, 51: {4, -1, -1}, 59: {4, -1, -1}, 60: {2, -1, -1}, 69: {2, -1, -1}, 70: {0, -1, -1},
		999: {0, -1, -1}, 1000: {0, 3, -1}, 199999: {0, 3, -1}, 200000: {0, 5, -1},
	} {
		if l, e := surge.Current(x, now); !slices.Equal(l, want) || e != api.OK {
			t.Errorf("at %d: %v, %d", now, l, e)
		}
	}
	if l, e := surge.Current(calm(0), 100); len(l) != 0 || e != api.OK {
		t.Errorf("without centres: %v, %d", l, e)
	}
}

// P2.2: by how much a forecast may be wrong; this does not depend on what is known.
func TestP2_2Error(t *testing.T) {
	x := coast()
	x.Centres[1] = api.SgCentre{Name: "ocean", Late: 1000, Base: 5000, Growth: 1000}
	x.Forecasts[1].Issued = 0
	x.Forecasts[2].Issued = 200000
	for _, c := range []struct{ forecast, tick, want int }{
		{0, 0, 100}, {0, 87, 100}, {0, 88, 100}, {0, 89, 150}, {0, 94, 150}, {0, 95, 200}, {0, 100, 200}, {0, 101, 250},
		{1, 0, 5000}, {1, 1, 6000}, {1, 6, 6000}, {1, 7, 7000}, {1, 199998, 5000 + 33333000}, {1, 200000, 5000 + 33334000},
		{2, 0, 100}, {2, 199999, 100}, {2, 200000, 100},
	} {
		if n, e := surge.Error(x, c.forecast, c.tick); n != c.want || e != api.OK {
			t.Errorf("%d at %d: %d, %d; not %d", c.forecast, c.tick, n, e, c.want)
		}
	}
}

// P2.2: indices that are none of a forecast, or of a member.
func TestP2_2None(t *testing.T) {
	for _, n := range append(wild(), 0, 1, 2, 3, 4) {
		x := coast()
		y, e := surge.Error(x, n, 100)
		if right := 0 <= n && n <= 2; right != (e == api.OK) || !right && (e != api.ErrNone || y != 0) {
			t.Errorf("Error of %d: %d, %d", n, y, e)
		}
		l, e := surge.Tube(x, n, 0)
		if right := 0 <= n && n <= 2; right != (e == api.OK) || !right && (e != api.ErrNone || len(l) != 0) {
			t.Errorf("Tube of %d: %v, %d", n, l, e)
		}
		for forecast, members := range []int{2, 1, 1} {
			l, e = surge.Tube(x, forecast, n)
			if right := 0 <= n && n < members; right != (e == api.OK) || !right && (e != api.ErrNone || len(l) != 0) {
				t.Errorf("Tube of %d, the member %d: %v, %d", forecast, n, l, e)
			}
		}
		if _, e := surge.Error(calm(1), n, 100); e != api.ErrNone {
			t.Errorf("Error of %d without forecasts: %d", n, e)
		}
		if _, e := surge.Tube(calm(1), n, 0); e != api.ErrNone {
			t.Errorf("Tube of %d without forecasts: %d", n, e)
		}
		if _, e := surge.Error(x, n, -1); e != api.ErrRange {
			t.Errorf("Error of %d at -1: %d", n, e)
		}
	}
}

// P2.2: tubes, with a tide that is a span, and beyond the levels.
func TestP2_2Tube(t *testing.T) {
	free := sp(-20000, 20000)
	x := calm(2)
	x.Table, x.From, x.Ticks = moon(), 0, 4 // 90 to 110, 144 to 165, 198 to 219, 252 to 273
	x.Centres[0].Base, x.Centres[0].Growth = 7, 100
	x.Centres[1].Base = 5000
	put := func(centre, issued, from int, members ...[]int) {
		x.Forecasts = append(x.Forecasts, api.SgForecast{Centre: centre, Issued: issued, From: from, Members: members})
	}
	put(0, 2, 1, ints(10, 20, 30, 40, 50), ints(-1, -2, -3, -4, -5))
	put(0, 0, 0, ints(0))
	put(0, 1, 3, ints(0, 1))
	put(0, 3, 4, ints(0, 1))
	put(1, 0, 0, ints(10000, -10000, 10000, -10000))
	put(1, 200000, 200000, ints(1))
	need(t, x)
	for i, c := range []struct {
		forecast, member int
		want             []api.Span
	}{
		{0, 0, []api.Span{free, sp(147, 182), sp(211, 246), sp(175, 410)}},
		{0, 1, []api.Span{free, sp(136, 171), sp(189, 224), sp(142, 377)}},
		{1, 0, []api.Span{sp(83, 117), free, free, free}},
		{2, 0, []api.Span{free, free, free, sp(145, 380)}},
		{3, 0, []api.Span{free, free, free, free}},
		{4, 0, []api.Span{sp(5090, 15110), sp(-14856, -4835), sp(5198, 15219), sp(-14748, -4727)}},
		{5, 0, []api.Span{free, free, free, free}},
	} {
		if l, e := surge.Tube(x, c.forecast, c.member); !slices.Equal(l, c.want) || e != api.OK {
			t.Errorf("%d: %v, %d; not %v", i, l, e, c.want)
		}
	}
	x.Table = api.TdTable{Mean: 20000}
	if l, e := surge.Tube(x, 4, 0); !slices.Equal(l, []api.Span{sp(25000, 35000), sp(5000, 15000), sp(25000, 35000), sp(5000, 15000)}) || e != api.OK {
		t.Errorf("beyond the levels: %v, %d", l, e)
	}
}

// P2.3: the base by the tide alone.
func TestP2_3Tide(t *testing.T) {
	for i, c := range []struct {
		mean, least, most int
		want              api.Span
	}{
		{0, -500, 4000, sp(-500, 4000)}, {0, 0, 0, sp(0, 0)}, {300, -10000, 10000, sp(-9700, 10300)},
		{15000, -1, 10000, sp(14999, 20000)}, {-15000, -10000, 1, sp(-20000, -14999)}, {20000, 0, 0, sp(20000, 20000)}, {-20000, 0, 0, sp(-20000, -20000)},
		{20000, 0, 10000, sp(20000, 20000)}, {-20000, -10000, 0, sp(-20000, -20000)},
	} {
		x := calm(0)
		x.Table.Mean, x.Least, x.Most = c.mean, c.least, c.most
		if l, e := surge.Base(x, 0); !slices.Equal(l, slices.Repeat([]api.Span{c.want}, 3)) || e != api.OK {
			t.Errorf("%d: %v, %d; not %v", i, l, e, c.want)
		}
	}
	x := calm(0)
	x.Table, x.From, x.Ticks, x.Least, x.Most = moon(), 0, 2, -3, 40
	if l, e := surge.Base(x, 200000); !slices.Equal(l, []api.Span{sp(87, 150), sp(141, 205)}) || e != api.OK {
		t.Errorf("by the moon: %v, %d", l, e)
	}
}

// steep returns a table that is 0 at the first tick, and 500 higher at each of the next two.
func steep(mean int) api.TdTable {
	return api.TdTable{Mean: mean, Consts: []api.TdConst{{Name: "n", Heights: []int{0, 500, 1000}, Step: 1, Den: 1}}}
}

// P2.3: there may be no level in the base at a tick: then it is an error, and no history is possible.
func TestP2_3Down(t *testing.T) {
	for i, c := range []struct {
		mean, least, most int
		e                 api.Errno
	}{
		{19000, 0, 0, api.OK}, {19001, 0, 0, api.ErrDown}, {19001, -1, 0, api.OK}, {19001, 0, 10000, api.ErrDown}, {-20000, 0, 0, api.OK},
		{20000, -1000, 0, api.OK}, {20000, -999, 0, api.ErrDown}, {20000, 0, 0, api.ErrDown},
	} {
		x := calm(1)
		x.From, x.Table, x.Least, x.Most, x.Rate = 99, steep(c.mean), c.least, c.most, 5000 // 99 is a multiple of 3
		says(&x, 0, ints(0))
		x.Forecasts[0].From = 99
		need(t, x)
		for _, y := range all(x, 99, 99, 0, 0, api.Series{From: 99, Values: []int{20000, 20000, 20000}}) {
			want := api.OK
			if y.name == "Base" || y.name == "Envelope" || y.name == "Peak" {
				want = c.e
			}
			if y.e != want || c.e != api.OK && want != api.OK && !isZero(y) {
				t.Errorf("%d: %s: %v, %d", i, y.name, y.value, y.e)
			}
			if none := isZero(y); c.e != api.OK && !none && (y.name == "Boxes" || y.name == "Possible" || y.name == "Is" || y.name == "Ruled") {
				t.Errorf("%d: %s: %v, and the base has no level", i, y.name, y.value)
			}
			if y.name == "Suspects" && len(y.value.([]int)) != map[api.Errno]int{api.OK: 0, api.ErrDown: 1}[c.e] {
				t.Errorf("%d: Suspects: %v", i, y.value)
			}
		}
	}
}

// P2.3: the base with gauges, by what is known, and without those that are wrong.
func TestP2_3Gauges(t *testing.T) {
	for i, c := range []struct {
		gauges []api.TdGauge
		wrong  int
		now    int
		want   []api.Span
		e      api.Errno
	}{
		{[]api.TdGauge{gauge("a", 101, 300)}, 0, 101, []api.Span{sp(285, 315), sp(290, 310), sp(285, 315)}, api.OK},
		{[]api.TdGauge{gauge("a", 101, 300)}, 0, 200000, []api.Span{sp(285, 315), sp(290, 310), sp(285, 315)}, api.OK},
		{[]api.TdGauge{gauge("a", 101, 300)}, 0, 100, slices.Repeat([]api.Span{sp(-1000, 1000)}, 3), api.OK}, // it says nothing yet
		{[]api.TdGauge{gauge("a", 101, 1005)}, 0, 101, []api.Span{sp(990, 1000), sp(995, 1000), sp(990, 1000)}, api.OK},
		{[]api.TdGauge{gauge("a", 101, -1005)}, 0, 101, []api.Span{sp(-1000, -990), sp(-1000, -995), sp(-1000, -990)}, api.OK},
		{[]api.TdGauge{gauge("a", 101, 1010)}, 0, 101, []api.Span{sp(995, 1000), sp(1000, 1000), sp(995, 1000)}, api.OK},
		{[]api.TdGauge{gauge("a", 101, 1011)}, 0, 101, nil, api.ErrDown},
		{[]api.TdGauge{gauge("a", 101, -1011)}, 0, 101, nil, api.ErrDown},
		{[]api.TdGauge{gauge("a", 100, 1011)}, 0, 101, nil, api.ErrDown},
		{[]api.TdGauge{gauge("a", 102, 1011)}, 0, 102, nil, api.ErrDown},
		{[]api.TdGauge{gauge("a", 101, 300), gauge("b", 101, 315)}, 0, 101, []api.Span{sp(300, 315), sp(305, 310), sp(300, 315)}, api.OK},
		{[]api.TdGauge{gauge("a", 101, 300), gauge("b", 101, 315)}, 1, 101, []api.Span{sp(285, 330), sp(290, 325), sp(285, 330)}, api.OK},
		{[]api.TdGauge{gauge("a", 101, 300), gauge("b", 101, 325)}, 0, 101, []api.Span{sp(310, 315), sp(-1000, 1000), sp(310, 315)}, api.OK}, // they do not agree at 101
		{[]api.TdGauge{gauge("a", 101, 300), gauge("b", 101, 331)}, 0, 101, slices.Repeat([]api.Span{sp(-1000, 1000)}, 3), api.OK},
		{[]api.TdGauge{gauge("a", 101, 300), gauge("b", 101, 331)}, 1, 101, []api.Span{sp(285, 346), sp(290, 341), sp(285, 346)}, api.OK},
		{[]api.TdGauge{gauge("a", 101, 300), gauge("b", 101, 315), gauge("c", 101, 900)}, 1, 101, []api.Span{sp(300, 315), sp(305, 310), sp(300, 315)}, api.OK},
	} {
		x := calm(0)
		x.Gauges, x.Wrong = c.gauges, c.wrong
		if l, e := surge.Base(x, c.now); !slices.Equal(l, c.want) || e != c.e {
			t.Errorf("%d: %v, %d; not %v, %d", i, l, e, c.want, c.e)
		}
	}
}
