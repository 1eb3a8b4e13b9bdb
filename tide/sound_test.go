package tide_test

import (
	"math/rand"
	"slices"
	"testing"

	"barrage/api"
	"barrage/tide"
)

// P1.5: levels on which gauges agree, by hand.
func TestP1_5Sound(t *testing.T) {
	lock, weir, mole := saying("lock", 600, 700), saying("weir", 0, 10), saying("mole", 690, 710)
	left, touch, next := saying("left", 0, 4), saying("touch", 4, 8), saying("next", 5, 7)
	for i, c := range []struct {
		l      []api.TdGauge
		wrong  int
		want   api.Span
		e      api.Errno
		many   int
		others []int
	}{
		{[]api.TdGauge{pier()}, 0, sp(580, 630), api.OK, 1, nil},
		{[]api.TdGauge{pier(), lock}, 0, sp(600, 630), api.OK, 2, nil},
		{[]api.TdGauge{pier(), lock}, 1, sp(580, 700), api.OK, 2, nil},
		{[]api.TdGauge{pier(), lock, weir}, 0, sp(0, 0), api.ErrDown, 2, []int{2}},
		{[]api.TdGauge{pier(), lock, weir}, 1, sp(600, 630), api.OK, 2, []int{2}},
		{[]api.TdGauge{weir, pier(), lock}, 1, sp(600, 630), api.OK, 2, []int{0}},
		{[]api.TdGauge{pier(), lock, weir}, 2, sp(0, 700), api.OK, 2, []int{2}},
		{[]api.TdGauge{pier(), lock, mole}, 1, sp(600, 700), api.OK, 2, nil}, // 600 to 630, and 690 to 700
		{[]api.TdGauge{pier(), lock, mole, weir}, 1, sp(0, 0), api.ErrDown, 2, []int{3}},
		{[]api.TdGauge{pier(), weir}, 1, sp(0, 630), api.OK, 1, nil},
		{[]api.TdGauge{left, touch}, 0, sp(4, 4), api.OK, 2, nil},
		{[]api.TdGauge{touch, left}, 0, sp(4, 4), api.OK, 2, nil},
		{[]api.TdGauge{left, next}, 0, sp(0, 0), api.ErrDown, 1, nil},
		{[]api.TdGauge{left, touch, next}, 1, sp(4, 7), api.OK, 2, nil}, // 4, and 5 to 7
		{[]api.TdGauge{left, touch, next}, 0, sp(0, 0), api.ErrDown, 2, nil},
		{[]api.TdGauge{pier(), mute("a")}, 0, sp(0, 0), api.ErrDown, 1, []int{1}},
		{[]api.TdGauge{pier(), mute("a")}, 1, sp(580, 630), api.OK, 1, []int{1}},
		{[]api.TdGauge{torn("a"), pier()}, 0, sp(0, 0), api.ErrDown, 1, []int{0}},
		{[]api.TdGauge{torn("a"), pier()}, 1, sp(580, 630), api.OK, 1, []int{0}},
		{[]api.TdGauge{torn("a"), pier(), mute("b"), lock}, 2, sp(600, 630), api.OK, 2, []int{0, 2}},
		{[]api.TdGauge{torn("a"), pier(), mute("b"), lock}, 3, sp(580, 700), api.OK, 2, []int{0, 2}},
		{[]api.TdGauge{torn("a"), pier(), mute("b"), lock}, 1, sp(0, 0), api.ErrDown, 2, []int{0, 2}},
		{[]api.TdGauge{mute("a")}, 0, sp(0, 0), api.ErrDown, 0, []int{0}},
		{[]api.TdGauge{mute("a"), torn("b")}, 1, sp(0, 0), api.ErrDown, 0, []int{0, 1}},
		{nil, 0, sp(0, 0), api.ErrRange, 0, nil},
		{nil, -1, sp(0, 0), api.ErrRange, 0, nil},
		{[]api.TdGauge{pier()}, 1, sp(0, 0), api.ErrRange, 1, nil},
		{[]api.TdGauge{pier()}, -1, sp(0, 0), api.ErrRange, 1, nil},
		{[]api.TdGauge{mute("a"), torn("b")}, 2, sp(0, 0), api.ErrRange, 0, []int{0, 1}},
	} {
		s, e := tide.Sound(c.l, c.wrong, 110, 110)
		many, others, f := tide.Agree(c.l, 110, 110)
		if s != c.want || e != c.e {
			t.Errorf("%d: Sound %v, %d; not %v, %d", i, s, e, c.want, c.e)
		}
		if many != c.many || !slices.Equal(others, c.others) || f != api.OK {
			t.Errorf("%d: Agree %d, %v, %d; not %d, %v", i, many, others, f, c.many, c.others)
		}
	}
	for _, wrong := range wild() {
		if s, e := tide.Sound([]api.TdGauge{pier(), lock}, wrong, 110, 110); s != sp(0, 0) || e != api.ErrRange {
			t.Errorf("wrong %d: %v, %d", wrong, s, e)
		}
	}
}

// P1.5: what is known, and at which tick.
func TestP1_5Known(t *testing.T) {
	lock := saying("lock", 600, 700)
	for i, c := range []struct {
		tick, now int
		want      api.Span
		e         api.Errno
		many      int
		others    []int
	}{
		{110, 89, sp(0, 0), api.ErrDown, 0, []int{0, 1}},
		{110, 109, sp(-520, 1520), api.OK, 1, []int{1}},
		{110, 110, sp(580, 700), api.OK, 2, nil},
		{111, 110, sp(530, 750), api.OK, 2, nil},
		{90, 110, sp(-400, 1700), api.OK, 2, []int{}},
	} {
		l := []api.TdGauge{pier(), lock}
		s, e := tide.Sound(l, 1, c.tick, c.now)
		many, others, f := tide.Agree(l, c.tick, c.now)
		if s != c.want || e != c.e || many != c.many || !slices.Equal(others, c.others) || f != api.OK {
			t.Errorf("%d: %v, %d, %d, %v, %d", i, s, e, many, others, f)
		}
	}
}

// P1.5: the order of errors; all of them are there at first, and are taken away one after the other.
func TestP1_5Order(t *testing.T) {
	l := make([]api.TdGauge, 9)
	tick, now, wrong := -1, 200001, -1
	for i, s := range []struct {
		repair       func()
		sound, agree api.Errno
	}{
		{func() {}, api.ErrLong, api.ErrLong},
		{func() { l = l[:8] }, api.ErrForm, api.ErrForm},
		{func() { l[0] = mute("a"); l[1] = mute("a"); l[2].Name = "a" }, api.ErrLong, api.ErrLong},
		{func() { l = []api.TdGauge{pier(), mute("a"), pier()}; l[1].Rate = -1 }, api.ErrRange, api.ErrRange},
		{func() { l[1].Rate = 0 }, api.ErrTwice, api.ErrTwice},
		{func() { l[2].Name = "lock" }, api.ErrRange, api.ErrRange},
		{func() { tick = 200000 }, api.ErrRange, api.ErrRange},
		{func() { now = 0 }, api.ErrRange, api.OK},
		{func() { wrong = 3 }, api.ErrRange, api.OK},
		{func() { wrong = 2 }, api.ErrDown, api.OK},
		{func() { now = 200000 }, api.OK, api.OK},
		{func() { now = 200001 }, api.ErrRange, api.ErrRange},
		{func() { now = -1 }, api.ErrRange, api.ErrRange},
		{func() { now, tick = 0, -1 }, api.ErrRange, api.ErrRange},
		{func() { now, tick = 100, 0 }, api.OK, api.OK},
	} {
		s.repair()
		x, e := tide.Sound(l, wrong, tick, now)
		many, others, f := tide.Agree(l, tick, now)
		if e != s.sound || f != s.agree {
			t.Errorf("%d: %d, %d", i, e, f)
		}
		if e != api.OK && x != sp(0, 0) || f != api.OK && (many != 0 || len(others) != 0) {
			t.Errorf("%d: results beside an error", i)
		}
	}
	for n := range 10 {
		var l []api.TdGauge
		for i := range n {
			l = append(l, mute(label(i)))
		}
		many, others, e := tide.Agree(l, 0, 0)
		if n <= 8 && (many != 0 || len(others) != n || e != api.OK) || n > 8 && e != api.ErrLong {
			t.Errorf("%d gauges: %d, %v, %d", n, many, others, e)
		}
	}
	// Names that are the same, at any two places.
	for i := range 8 {
		for j := range i {
			var l []api.TdGauge
			for k := range 8 {
				l = append(l, mute(label(k)))
			}
			l[i].Name = l[j].Name
			if _, _, e := tide.Agree(l, 0, 0); e != api.ErrTwice {
				t.Errorf("%d and %d: %d", i, j, e)
			}
		}
	}
}

// P1.6: residuals, and the errors of Check before those of Sound.
func TestP1_6Residual(t *testing.T) {
	l := []api.TdGauge{pier(), saying("lock", 600, 700), saying("weir", 0, 10)}
	wrong := func(y *api.TdTable) { y.Consts[0].Den = 0 }
	for i, c := range []struct {
		change           func(y *api.TdTable)
		l                []api.TdGauge
		wrong, tick, now int
		want             api.Span
		e                api.Errno
	}{
		// The tide at 110 is that at 36: 54.05.. above the mean.
		{nil, l, 1, 110, 110, sp(600-165, 630-144), api.OK},
		{nil, l, 2, 110, 110, sp(0-165, 700-144), api.OK},
		{nil, l, 1, 111, 110, sp(550-110, 680-90), api.OK},
		{nil, l[:1], 0, 55, 90, sp(500-20-35*50+862, 500+20+35*50+883), api.OK},
		{nil, l, 0, 110, 110, sp(0, 0), api.ErrDown},
		{nil, l, 3, 110, 110, sp(0, 0), api.ErrRange},
		{nil, l, 1, -1, 110, sp(0, 0), api.ErrRange},
		{nil, l, 1, 110, 200001, sp(0, 0), api.ErrRange},
		{nil, nil, 0, 110, 110, sp(0, 0), api.ErrRange},
		{nil, make([]api.TdGauge, 9), 0, 110, 110, sp(0, 0), api.ErrLong},
		{nil, make([]api.TdGauge, 8), 0, 110, 110, sp(0, 0), api.ErrForm},
		{nil, []api.TdGauge{pier(), pier()}, 0, 110, 110, sp(0, 0), api.ErrTwice},
		{wrong, make([]api.TdGauge, 9), 0, -1, 110, sp(0, 0), api.ErrRange},
		{func(y *api.TdTable) { y.Consts[0].Name = "" }, make([]api.TdGauge, 9), -1, -1, -1, sp(0, 0), api.ErrForm},
		{func(y *api.TdTable) { y.Consts[0].Heights = nil }, []api.TdGauge{pier(), pier()}, -1, -1, -1, sp(0, 0), api.ErrLong},
		{func(y *api.TdTable) { y.Consts = append(y.Consts, y.Consts[0]) }, l, 0, 110, 110, sp(0, 0), api.ErrTwice},
	} {
		y := moon()
		if c.change != nil {
			c.change(&y)
		}
		if s, e := tide.Residual(y, c.l, c.wrong, c.tick, c.now); s != c.want || e != c.e {
			t.Errorf("%d: %v, %d; not %v, %d", i, s, e, c.want, c.e)
		}
	}
}

// anyGauges returns gauges that say something of levels near 0 at the tick 110, or nothing, or contradict themselves.
func anyGauges(r *rand.Rand, most int) []api.TdGauge {
	var l []api.TdGauge
	for i := range r.Intn(most + 1) {
		lo := 2*r.Intn(20) - 20
		switch r.Intn(8) {
		case 0:
			l = append(l, mute(label(i)))
		case 1:
			l = append(l, torn(label(i)))
		default:
			l = append(l, saying(label(i), lo, lo+2*r.Intn(9)))
		}
	}
	return l
}

// agreeing returns how many gauges say that a level is possible at the tick 110.
func agreeing(l []api.TdGauge, level int) int {
	n := 0
	for _, g := range l {
		if s, e := tide.Says(g, 110, 110); e == api.OK && has(s, level) {
			n++
		}
	}
	return n
}

// counted returns the greatest number of gauges that agree on a level near 0, the gauges that are not among those, and for each number from 1 on the span around the levels on which as many agree.
func counted(l []api.TdGauge) (many int, others []int, spans map[int]api.Span) {
	spans = map[int]api.Span{}
	for x := -40; x <= 60; x++ {
		for n := agreeing(l, x); n > 0; n-- {
			many = max(many, n)
			if s, ok := spans[n]; ok {
				spans[n] = sp(s.Lo, x)
			} else {
				spans[n] = sp(x, x)
			}
		}
	}
	for i := range l {
		agrees := false
		for x := -40; x <= 60; x++ {
			agrees = agrees || agreeing(l[i:i+1], x) == 1 && agreeing(l, x) == many
		}
		if !agrees {
			others = append(others, i)
		}
	}
	return many, others, spans
}

// P1.5, P1.12: Sound and Agree are what is counted level by level; the order of the gauges makes no difference, and a greater number wrong makes no span smaller.
func TestP1_12Agreement(t *testing.T) {
	r := rand.New(rand.NewSource(12))
	for range 400 {
		l := anyGauges(r, api.MaxTdGauges)
		many, others, e := tide.Agree(l, 110, 110)
		wantMany, wantOthers, spans := counted(l)
		if many != wantMany || !slices.Equal(others, wantOthers) || e != api.OK {
			t.Fatalf("%+v: %d, %v, %d; not %d, %v", l, many, others, e, wantMany, wantOthers)
		}
		mixed := slices.Clone(l)
		r.Shuffle(len(l), func(i, j int) { mixed[i], mixed[j] = mixed[j], mixed[i] })
		if n, _, e := tide.Agree(mixed, 110, 110); n != many || e != api.OK {
			t.Fatalf("%+v: %d, in another order %d, %d", l, many, n, e)
		}
		var before api.Span
		for wrong := range l {
			s, e := tide.Sound(l, wrong, 110, 110)
			want, found := spans[len(l)-wrong]
			if s != want || found != (e == api.OK) || !found && e != api.ErrDown {
				t.Fatalf("%+v, %d wrong: %v, %d; not %v", l, wrong, s, e, want)
			}
			if (e == api.OK) != (many >= len(l)-wrong) {
				t.Fatalf("%+v, %d wrong: %d, and %d agree", l, wrong, e, many)
			}
			if o, f := tide.Sound(mixed, wrong, 110, 110); o != s || f != e {
				t.Fatalf("%+v, %d wrong: %v, %d, in another order %v, %d", l, wrong, s, e, o, f)
			}
			if e != api.OK {
				continue
			}
			if agreeing(l, s.Lo) < len(l)-wrong || agreeing(l, s.Hi) < len(l)-wrong {
				t.Fatalf("%+v, %d wrong: an end of %v is no such level", l, wrong, s)
			}
			if before != sp(0, 0) && !inside(before, s) {
				t.Fatalf("%+v, %d wrong: %v is smaller than %v", l, wrong, s, before)
			}
			before = s
		}
	}
}

// P1.12: with true gauges, and as many false ones as are told, the level is in Sound.
func TestP1_12True(t *testing.T) {
	r := rand.New(rand.NewSource(121))
	for range 100 {
		w := anyWorld(r, 30)
		if len(w.gauge.Readings) == 0 {
			continue
		}
		now := w.gauge.Readings[0].Tick + r.Intn(30-w.gauge.Readings[0].Tick)
		tick := r.Intn(30)
		other := copyGauge(w.gauge)
		other.Name = "other"
		l := append([]api.TdGauge{w.gauge, other}, anyGauges(r, 4)...)
		s, e := tide.Sound(l, len(l)-2, tick, now)
		if e != api.OK || !has(s, w.levels[tick]) {
			t.Fatalf("%+v: %d at %d is not in %v, %d", l, w.levels[tick], tick, s, e)
		}
	}
}

// P1.13: the difference of any level in Sound and any of the tide is in Residual, and its ends are such differences.
func TestP1_13Residuals(t *testing.T) {
	r := rand.New(rand.NewSource(13))
	for range 300 {
		y, l := anyTable(r, 50), anyGauges(r, 4)
		wrong, tick := r.Intn(4), 105+r.Intn(10)
		s, e1 := tide.Sound(l, wrong, tick, 110)
		x, e2 := tide.Level(y, tick)
		d, e3 := tide.Residual(y, l, wrong, tick, 110)
		if e2 != api.OK || e1 != e3 {
			t.Fatalf("%d, %d, %d", e1, e2, e3)
		}
		if e1 != api.OK {
			if d != sp(0, 0) {
				t.Fatalf("%v beside an error", d)
			}
			continue
		}
		for range 10 {
			if a, b := from(r, s.Lo, s.Hi), from(r, x.Lo, x.Hi); !has(d, a-b) {
				t.Fatalf("%d - %d is not in %v", a, b, d)
			}
		}
		if d != sp(s.Lo-x.Hi, s.Hi-x.Lo) {
			t.Fatalf("%v, of %v and %v", d, s, x)
		}
	}
}
