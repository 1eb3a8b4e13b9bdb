package surge_test

import (
	"math/rand"
	"slices"
	"testing"

	"barrage/api"
	"barrage/surge"
	"barrage/tide"
)

// world is a task, and what happens: the level at each tick of it, and the centres that are right whenever they forecast.
type world struct {
	task   api.SgTask
	levels []int
	honest []int
}

// anyWorld returns a world whose task is about up to 40 ticks from 1000 on; from the tick 900 on, all honest centres and gauges say something.
func anyWorld(r *rand.Rand) world {
	x := api.SgTask{Table: moon(), From: 1000, Ticks: from(r, 1, 40), Rate: from(r, 1, 400)}
	x.Table.Consts[0].Slack = from(r, 0, 200)
	// The tide alone changes by up to 54, and by its slack.
	x.Rate += 55 + 2*x.Table.Consts[0].Slack
	levels, surges := anyLevels(r, x)
	x.Least, x.Most = min(0, slices.Min(surges)), max(0, slices.Max(surges))
	w := world{task: x, levels: levels[1000-900:][:x.Ticks]}
	for i := range from(r, 0, 4) {
		w.task.Centres = append(w.task.Centres, api.SgCentre{Name: label(i), Late: r.Intn(20), Base: r.Intn(300), Growth: r.Intn(50)})
	}
	w.task.Quorum = r.Intn(len(w.task.Centres) + 1)
	w.honest = r.Perm(len(w.task.Centres))[:w.task.Quorum]
	for range r.Intn(api.MaxSgForecasts + 1 - len(w.honest)) {
		if len(w.task.Centres) > 0 {
			w.forecast(r, r.Intn(len(w.task.Centres)), from(r, 880, 1050), surges)
		}
	}
	for _, c := range w.honest {
		w.forecast(r, c, 860+r.Intn(20), surges) // with Late at most 20, it is known at 900
	}
	for i := range r.Intn(5) {
		w.task.Gauges = append(w.task.Gauges, reading(r, x.Rate, levels, label(i)))
	}
	w.task.Wrong = r.Intn(max(1, len(w.task.Gauges)))
	for _, i := range r.Perm(len(w.task.Gauges))[:w.task.Wrong] {
		for j := range w.task.Gauges[i].Readings {
			w.task.Gauges[i].Readings[j].Value += from(r, -900, 900)
		}
	}
	return w
}

// anyLevels returns the levels of 200 ticks from 900 on, and the surges that go with them and with a level of the tide at each.
func anyLevels(r *rand.Rand, x api.SgTask) (levels, surges []int) {
	for tick := 900; tick < 1100; tick++ {
		s, _ := tide.Level(x.Table, tick)
		level := s.Lo
		if len(levels) > 0 {
			last := levels[len(levels)-1]
			level = min(max(last+from(r, -x.Rate, x.Rate), s.Lo-800), s.Hi+3000)
			level = min(max(level, last-x.Rate), last+x.Rate)
		}
		levels = append(levels, level)
		surges = append(surges, level-from(r, s.Lo, s.Hi))
	}
	return levels, surges
}

// forecast adds a forecast of a centre, unless it has issued one at this tick. One member of it is as the centre says if the centre is honest.
func (w *world) forecast(r *rand.Rand, centre, issued int, surges []int) {
	if slices.ContainsFunc(w.task.Forecasts, func(o api.SgForecast) bool { return o.Centre == centre && o.Issued == issued }) {
		return
	}
	f := api.SgForecast{Centre: centre, Issued: issued, From: from(r, 990, 1010)}
	n, members := from(r, 1, 60), from(r, 1, api.MaxSgMembers)
	for range members {
		m, start := []int{}, from(r, -1000, 3000)
		for i := range n {
			m = append(m, start+from(r, -10, 10)*i)
		}
		f.Members = append(f.Members, m)
	}
	if slices.Contains(w.honest, centre) {
		m := f.Members[r.Intn(members)]
		for i := range m {
			c := w.task.Centres[centre]
			by := c.Base + c.Growth*((max(0, f.From+i-issued)+5)/6)
			m[i] = surges[f.From+i-900] + from(r, -by, by)
		}
	}
	w.task.Forecasts = append(w.task.Forecasts, f)
}

// reading returns a gauge that reads these levels, from the tick 900 on, as its fields say.
func reading(r *rand.Rand, rate int, levels []int, name string) api.TdGauge {
	g := api.TdGauge{Name: name, Error: r.Intn(100), Rate: min(rate, api.MaxTdRate), Datums: []api.TdDatum{{Shift: sp(-30, 20)}}}
	shift := from(r, -30, 20)
	for i := 0; i < len(levels) && len(g.Readings) < api.MaxTdReadings; i += 1 + r.Intn(4) {
		g.Readings = append(g.Readings, api.TdReading{Tick: 900 + i, Value: levels[i] + shift + from(r, -g.Error, g.Error)})
	}
	return g
}

// P2.8, P2.9: what happens is possible, if enough centres and gauges are right; it is in what is said of all possible histories.
func TestP2_8Happens(t *testing.T) {
	r := rand.New(rand.NewSource(8))
	for range 400 {
		w := anyWorld(r)
		x := w.task
		need(t, x)
		s := api.Series{From: x.From, Values: w.levels}
		for range 5 {
			now := from(r, 900, 1050)
			if is, e := surge.Is(x, now, s); !is || e != api.OK {
				t.Fatalf("%+v at %d: %v happens: %v, %d", x, now, s, is, e)
			}
			right, _ := surge.Right(x, now, s)
			suspects, _ := surge.Suspects(x, now)
			for _, c := range w.honest {
				if !right[c] || slices.Contains(suspects, c) {
					t.Fatalf("%+v at %d: %d is not right for %v, or a suspect", x, now, c, s)
				}
			}
			highest, _ := surge.Possible(x, now)
			if !slices.ContainsFunc(highest, func(o api.Series) bool { return under(w.levels, o.Values) }) {
				t.Fatalf("%+v at %d: %v is below none of %v", x, now, s, highest)
			}
			low, high, e := surge.Envelope(x, now)
			if e != api.OK || !under(low.Values, w.levels) || !under(w.levels, high.Values) {
				t.Fatalf("%+v at %d: %v is not between %v and %v, %d", x, now, s, low, high, e)
			}
			if top, e := surge.Peak(x, now); e != api.OK || slices.Max(w.levels) < top.Lo || slices.Max(w.levels) > top.Hi {
				t.Fatalf("%+v at %d: the highest level of %v is not in %v, %d", x, now, s, top, e)
			}
		}
	}
}

// P2.10: both ends of each box are possible, and so are the highest histories.
func TestP2_10Ends(t *testing.T) {
	r := rand.New(rand.NewSource(10))
	many := 0
	for range 150 {
		x, now := anyWorld(r).task, from(r, 850, 1050)
		l, e := surge.Boxes(x, now)
		if e != api.OK {
			t.Fatalf("%+v at %d: %d", x, now, e)
		}
		many += len(l)
		ends, _ := surge.Possible(x, now)
		for _, b := range l {
			if !under(b.Low.Values, b.High.Values) {
				t.Fatalf("%+v at %d: %v", x, now, b)
			}
			ends = append(ends, b.Low, b.High)
		}
		for _, s := range ends {
			if is, e := surge.Is(x, now, s); !is || e != api.OK {
				t.Fatalf("%+v at %d: %v: %v, %d", x, now, s, is, e)
			}
		}
	}
	if many < 200 {
		t.Errorf("%d boxes: too few", many)
	}
}

// P2.11: what is not known yet, or is replaced, changes nothing.
func TestP2_11Known(t *testing.T) {
	r := rand.New(rand.NewSource(11))
	more := 0
	for range 300 {
		x := anyTask(r)
		now := 10 + r.Intn(13)
		s := api.Series{From: x.From, Values: slices.Repeat([]int{x.Table.Mean}, x.Ticks)}
		before := all(x, now, now, -1, -1, s)
		y := copyTask(x)
		for range 10 {
			z := copyTask(y)
			addForecast(r, &z)
			if last := len(z.Forecasts) - 1; last == len(y.Forecasts) && !counts(z, last, now) && len(z.Forecasts) <= api.MaxSgForecasts {
				y = z
				more++
			}
		}
		for i := range y.Gauges {
			g := &y.Gauges[i]
			g.Readings = slices.DeleteFunc(g.Readings, func(d api.TdReading) bool { return d.Tick > now })
			for tick := now + 1 + r.Intn(3); tick < now+6; tick += 1 + r.Intn(3) {
				g.Readings = append(g.Readings, api.TdReading{Tick: tick, Value: from(r, -30000, 30000)})
			}
		}
		need(t, y)
		if after := all(y, now, now, -1, -1, s); !same(before, after) {
			t.Fatalf("%+v at %d: %v; %+v: %v", x, now, before, y, after)
		}
	}
	if more < 300 {
		t.Errorf("%d forecasts more: too few", more)
	}
}

// counts reports whether a forecast is known at a tick, and no later one of its centre is.
func counts(x api.SgTask, forecast, now int) bool {
	f := x.Forecasts[forecast]
	late := x.Centres[f.Centre].Late
	replaced := slices.ContainsFunc(x.Forecasts, func(o api.SgForecast) bool {
		return o.Centre == f.Centre && o.Issued > f.Issued && o.Issued+late <= now
	})
	return f.Issued+late <= now && !replaced
}

// P2.12: with readings alone that become known, and no gauge wrong, what is possible later was possible before.
func TestP2_12Later(t *testing.T) {
	r := rand.New(rand.NewSource(12))
	less := 0
	for range 3000 {
		x := anyTask(r)
		x.Wrong = 0
		then := 10 + r.Intn(12)
		now := then + r.Intn(6)
		fresh := slices.ContainsFunc(x.Forecasts, func(f api.SgForecast) bool {
			known := f.Issued + x.Centres[f.Centre].Late
			return then < known && known <= now
		})
		if fresh || len(x.Gauges) == 0 || !soundAt(x, now) {
			continue
		}
		k, before := tell(t, x, now), tell(t, x, then)
		for _, values := range someOf(r, k) {
			is, _ := surge.Is(x, now, k.series(values))
			was, _ := surge.Is(x, then, k.series(values))
			if is && !was {
				t.Fatalf("%+v: %v is possible at %d, and was not at %d", x, values, now, then)
			}
		}
		if !same(k.base, before.base) {
			less++
		}
	}
	if less < 30 {
		t.Errorf("%d have less later: too much alike", less)
	}
}

// soundAt reports whether tide.Sound has no error at any tick of the task.
func soundAt(x api.SgTask, now int) bool {
	for tick := x.From; tick < x.From+x.Ticks; tick++ {
		if _, e := tide.Sound(x.Gauges, x.Wrong, tick, now); e != api.OK {
			return false
		}
	}
	return true
}

// P2.13: with less that is asked for, or more that is allowed, no history is lost.
func TestP2_13More(t *testing.T) {
	r := rand.New(rand.NewSource(13))
	won := 0
	for range 1000 {
		x := anyTask(r)
		now := 10 + r.Intn(13)
		y := copyTask(x)
		change := r.Intn(6)
		for i := range y.Centres {
			c := &y.Centres[i]
			switch change {
			case 0:
				c.Base += r.Intn(3)
			case 1:
				c.Growth += r.Intn(3)
			}
		}
		switch change {
		case 2:
			y.Quorum = max(0, y.Quorum-1)
		case 3:
			y.Rate++
		case 4:
			y.Most++
		case 5:
			y.Least--
		}
		need(t, y)
		for _, values := range someOf(r, tell(t, y, now)) {
			s := api.Series{From: x.From, Values: values}
			was, _ := surge.Is(x, now, s)
			is, _ := surge.Is(y, now, s)
			if was && !is {
				t.Fatalf("%+v at %d: %v is lost with %+v", x, now, s, y)
			}
			if is && !was {
				won++
			}
		}
		boxes, _ := surge.Boxes(x, now)
		for _, b := range boxes {
			low, _ := surge.Is(y, now, b.Low)
			high, _ := surge.Is(y, now, b.High)
			if !low || !high {
				t.Fatalf("%+v at %d: %v is lost with %+v", x, now, b, y)
			}
		}
	}
	if won < 300 {
		t.Errorf("%d are won: too much alike", won)
	}
}

// P2.14: no suspect is right for any possible history.
func TestP2_14Suspects(t *testing.T) {
	r := rand.New(rand.NewSource(14))
	some := 0
	for range 500 {
		x := anyTask(r)
		now := 10 + r.Intn(13)
		k := tell(t, x, now)
		l, e := surge.Suspects(x, now)
		if e != api.OK {
			t.Fatalf("%+v at %d: %d", x, now, e)
		}
		some += len(l)
		for _, values := range k.all() {
			for _, c := range l {
				if k.right(c, values) {
					t.Fatalf("%+v at %d: %d is right for %v", x, now, c, values)
				}
			}
		}
	}
	if some < 50 {
		t.Errorf("%d suspects: too few", some)
	}
}
