package basin_test

import (
	"math/rand"
	"slices"
	"testing"

	"barrage/api"
	"barrage/basin"
)

// P4.3: what rivers bring, and what runs off, down to the volume of the first row.
func TestP4_3RiverAndOut(t *testing.T) {
	for _, least := range ints(0, 40) {
		b := tub()
		b.Rows = rows(0, least, 1000, least+2000)
		for i, c := range []struct{ volume, river, out, want, off int }{
			{100, 0, 0, 100, 0}, {100, 7, 0, 107, 0}, {0, 10000000, 0, 10000000, 0}, {100, 0, 30, 70, 30}, {100, 7, 30, 77, 30},
			{100, 0, 99, 1, 99}, {100, 0, 100, 0, 100}, {100, 0, 101, 0, 100}, {100, 7, 107, 0, 107}, {100, 7, 108, 0, 107},
			{0, 0, 10000000, 0, 0}, {0, 9, 10000000, 0, 9}, {20000000, 10000000, 10000000, 20000000, 10000000},
		} {
			step(t, i, b, state(least+c.volume), tick(-500, c.river, c.out), state(least+c.want), api.BsFlows{River: c.river, Out: c.off})
		}
	}
}

// P4.3: what runs over the barrier: only if it is higher outside than the crest.
func TestP4_3Over(t *testing.T) {
	for _, crest := range ints(-700, 0, 50, 19000) {
		for above, want := range map[int]int{-19000: 0, -1: 0, 0: 0, 1: 3, 10: 30, 1000: 3000} {
			b := tub()
			b.Crest, b.Over = crest, 3
			if crest+above < -20000 {
				continue
			}
			// However much there is inside, it does not run back.
			step(t, above, b, state(100000), tick(crest+above, 0, 0), state(100000+want), api.BsFlows{Over: want})
			b.Over = 0
			step(t, above, b, state(100000), tick(crest+above, 0, 0), state(100000), api.BsFlows{})
		}
	}
}

// P4.3: what leaks in and out, rounded down, down to the volume of the first row.
func TestP4_3Leak(t *testing.T) {
	for _, least := range ints(0, 40) {
		for i, c := range []struct{ leak, volume, outer, want int }{
			{2, 100, 50, 0}, {2, 100, 51, 2}, {2, 100, 49, -2}, {2, 101, 60, 19}, {1, 101, 60, 9}, {1, 101, 51, 0}, {1, 101, 50, -1}, {2, 101, 50, -1},
			{1, 101, 41, -10}, {0, 101, 20000, 0}, {0, 101, -20000, 0}, {1, 0, 0, 0}, {1, 0, -1, 0}, {1, 1, 0, -1}, {2, 1, 0, -1},
			{2, 3, 0, -3}, {2, 3, -10, -3}, {2, 3, -20000, -3}, {2, 100, 0, -100}, {2, 100, 1, -98}, {1, 100, 0, -50}, {1, 100, -49, -99}, {1, 100, -50, -100}, {1, 100, -51, -100},
			{2, 4000, 1999, -2}, {2, 4001, 20000, 35999}, {1, 4001, 20000, 17999}, {2, 0, 20000, 40000},
		} {
			b := tub()
			b.Rows, b.Leak = rows(0, least, 1000, least+2000), c.leak
			step(t, i, b, state(least+c.volume), tick(c.outer, 0, 0), state(least+c.volume+c.want), api.BsFlows{Leak: c.want})
		}
	}
}

// P4.3: what runs into polders: above their sills, rounded down, and up to their rooms, one after the other.
func TestP4_3Polders(t *testing.T) {
	for i, c := range []struct{ volume, sill, take, room, filled, want int }{
		{100, 50, 2, 1000, 0, 0}, {100, 51, 2, 1000, 0, 0}, {101, 50, 2, 1000, 0, 1}, {101, 50, 1, 1000, 0, 0}, {102, 50, 1, 1000, 0, 1}, {103, 50, 1, 1000, 0, 1},
		{200, 50, 2, 1000, 0, 100}, {200, 50, 0, 1000, 0, 0}, {200, 50, 2, 100, 0, 100}, {200, 50, 2, 99, 0, 99}, {200, 50, 2, 99, 98, 1}, {200, 50, 2, 99, 99, 0}, {200, 50, 2, 0, 0, 0},
		{200, 0, 2, 1000, 7, 200}, {200, 0, 2, 1000, 801, 199}, {0, 0, 2, 1000, 0, 0}, {60000, 20000, 2, 100000, 5, 20000}, {40000, 20000, 2, 1000, 0, 0},
	} {
		b := tub(api.BsPolder{Name: "a", Sill: c.sill, Take: c.take, Room: c.room})
		step(t, i, b, state(c.volume, c.filled), tick(0, 0, 0), state(c.volume-c.want, c.filled+c.want), api.BsFlows{Taken: ints(c.want)})
	}
	three := func(a, b, c int) api.BsBasin {
		return tub(api.BsPolder{Name: "a", Sill: a, Take: 1, Room: 500}, api.BsPolder{Name: "b", Sill: b, Take: 1, Room: 500}, api.BsPolder{Name: "c", Sill: c, Take: 1, Room: 500})
	}
	step(t, "each has what is left", three(50, 50, 50), state(201, 1, 2, 3), tick(0, 0, 0), state(113, 51, 27, 16), api.BsFlows{Taken: ints(50, 25, 13)})
	step(t, "the highest one first", three(90, 50, 0), state(201, 0, 0, 0), tick(0, 0, 0), state(73, 10, 45, 73), api.BsFlows{Taken: ints(10, 45, 73)})
	step(t, "the lowest one first", three(0, 50, 90), state(201, 0, 0, 0), tick(0, 0, 0), state(101, 100, 0, 0), api.BsFlows{Taken: ints(100, 0, 0)})
	step(t, "one is full", three(0, 50, 0), state(201, 500, 0, 0), tick(0, 0, 0), state(76, 500, 50, 75), api.BsFlows{Taken: ints(0, 50, 75)})
}

// P4.3: one after the other, each with what the one before it left.
func TestP4_3Order(t *testing.T) {
	b := tub(api.BsPolder{Name: "a", Sill: 30, Take: 1, Room: 500})
	b.Leak, b.Crest, b.Over = 1, 80, 3
	// 100, and 20 by the river, and 60 over the barrier, is 180: the level 90. 10 leak in, 60 run off, and 130 are the level 65.
	step(t, "in", b, state(100, 0), tick(100, 20, 60), state(95, 35), api.BsFlows{River: 20, Over: 60, Leak: 10, Out: 60, Taken: ints(35)})
	// 100 and 20 is the level 60. 30 leak out, and 70 are not enough for what is to run off.
	step(t, "out", b, state(100, 9), tick(30, 20, 95), state(0, 9), api.BsFlows{River: 20, Leak: -30, Out: 90, Taken: ints(0)})
	// What leaks out and runs off does not run into the polder.
	step(t, "down to the sill", b, state(100, 0), tick(30, 20, 30), state(60, 0), api.BsFlows{River: 20, Leak: -30, Out: 30, Taken: ints(0)})
	step(t, "above the sill", b, state(100, 0), tick(30, 20, 28), state(61, 1), api.BsFlows{River: 20, Leak: -30, Out: 28, Taken: ints(1)})
}

// errs tests that a tick of a basin has an error, in Step, and in Run behind a tick without one.
func errs(t *testing.T, what any, b api.BsBasin, s api.BsState, x api.BsTick, want api.Errno) {
	t.Helper()
	need(t, b)
	after, f, e := basin.Step(b, s, x)
	states, flows, g := basin.Run(b, s, []api.BsTick{{Outer: -20000}, x})
	if b.Leak == 0 && g != want || e != want {
		t.Errorf("%v: %d, %d; not %d", what, e, g, want)
	}
	if e != api.OK && !isZero(result{value: stepped{after, f}}) || g != api.OK && !isZero(result{value: ran{states, flows}}) {
		t.Errorf("%v: results beside an error", what)
	}
}

// P4.3: the numbers of a tick, at both of their limits and beyond them.
func TestP4_3Range(t *testing.T) {
	b := tub(api.BsPolder{Name: "a"})
	for what, l := range map[string]struct {
		set    func(x *api.BsTick, n int)
		lo, hi int
	}{
		"Outer": {func(x *api.BsTick, n int) { x.Outer = n }, -20000, 20000},
		"River": {func(x *api.BsTick, n int) { x.River = n }, 0, 10000000},
		"Out":   {func(x *api.BsTick, n int) { x.Out = n }, 0, 10000000},
	} {
		for _, n := range append(wild(), l.lo-1, l.lo, l.lo+1, l.hi-1, l.hi, l.hi+1) {
			var x api.BsTick
			l.set(&x, n)
			e := api.ErrRange
			if l.lo <= n && n <= l.hi {
				e = api.OK
			}
			errs(t, what, b, state(500, 0), x, e)
		}
	}
	errs(t, "too much as well", b, state(1000000000, 0), tick(0, 10000001, 0), api.ErrRange)
	errs(t, "too much as well", b, state(1000000000, 0), tick(0, 1, -1), api.ErrRange)
	errs(t, "too much as well", b, state(1000000000, 0), tick(20001, 1, 0), api.ErrRange)
}

// P4.3: no more than MaxVolume, after each of the three parts in which water comes, whatever happens behind it.
func TestP4_3Long(t *testing.T) {
	const most = 1000000000
	b := api.BsBasin{Rows: rows(0, 0, 1000, most), Crest: 50, Over: 3, Polders: []api.BsPolder{{Name: "a", Take: 10000, Room: most}}}
	for _, out := range ints(0, 10000000) {
		errs(t, "full", b, state(most, 0), tick(50, 0, out), api.OK)
		errs(t, "river", b, state(most-9, 0), tick(-20000, 9, out), api.OK)
		errs(t, "river", b, state(most-9, most), tick(-20000, 10, out), api.ErrLong)
		errs(t, "over", b, state(most-30, 0), tick(60, 0, out), api.OK)
		errs(t, "over", b, state(most-29, most), tick(60, 0, out), api.ErrLong)
		errs(t, "both", b, state(most-39, 0), tick(60, 9, out), api.OK)
		errs(t, "both", b, state(most-39, most), tick(60, 10, out), api.ErrLong)
	}
	// It leaks out again, and down to nothing: it was too much before.
	b.Rows, b.Leak = rows(0, 0, 20000, most), 10000
	errs(t, "river, and leak", b, state(most-9, 0), tick(-20000, 9, 0), api.OK)
	errs(t, "river, and leak", b, state(most-9, 0), tick(-20000, 10, 0), api.ErrLong)
	errs(t, "over, and leak", b, state(most-30, 0), tick(60, 0, 0), api.OK)
	errs(t, "over, and leak", b, state(most-29, 0), tick(60, 0, 0), api.ErrLong)
	// It leaks in: 1000.001 m3, and then 1000.000999 m3, each rounded down.
	b.Rows, b.Leak, b.Crest = rows(0, 0, 1000, most), 1, 20000
	for _, out := range ints(0, 10000000) {
		errs(t, "leak", b, state(most-1000, 0), tick(2000, 0, out), api.OK)
		errs(t, "leak", b, state(most-999, 0), tick(2000, 0, out), api.ErrLong)
	}
	step(t, "leak", b, state(most-1000, most), tick(2000, 0, 0), state(most, most), api.BsFlows{Leak: 1000, Taken: ints(0)})
}

// P4.3: how many ticks there may be, and the first one that has an error.
func TestP4_3Run(t *testing.T) {
	const most = 1000000000
	b := tub()
	bad, much, calm := tick(20001, 0, 0), tick(0, 10, 0), tick(0, 1, 0)
	for i, c := range []struct {
		volume int
		l      []api.BsTick
		e      api.Errno
	}{
		{most, nil, api.OK}, {most, []api.BsTick{calm}, api.ErrLong}, {most - 1, []api.BsTick{calm}, api.OK}, {most - 1, []api.BsTick{calm, calm}, api.ErrLong},
		{most - 5, []api.BsTick{calm, much, bad}, api.ErrLong}, {most - 5, []api.BsTick{calm, bad, much}, api.ErrRange}, {most - 5, []api.BsTick{bad, much}, api.ErrRange},
		{most - 5, []api.BsTick{much, bad}, api.ErrLong}, {most - 5, []api.BsTick{{Out: 10}, much, calm}, api.OK}, {0, slices.Repeat([]api.BsTick{calm}, 300), api.OK},
		{0, slices.Repeat([]api.BsTick{calm}, 301), api.ErrLong}, {0, slices.Repeat([]api.BsTick{bad}, 300), api.ErrRange}, {0, slices.Repeat([]api.BsTick{bad}, 301), api.ErrLong},
		{0, append(slices.Repeat([]api.BsTick{calm}, 299), bad), api.ErrRange}, {0, make([]api.BsTick, 1000000), api.ErrLong},
	} {
		states, flows, e := basin.Run(b, state(c.volume), c.l)
		if e != c.e {
			t.Errorf("%d: %d; not %d", i, e, c.e)
		}
		if n := len(c.l); e == api.OK && (len(states) != n || len(flows) != n) || e != api.OK && len(states)+len(flows) > 0 {
			t.Errorf("%d: %d ticks: %d states, %d flows, %d", i, n, len(states), len(flows), e)
		}
		// The others with ticks have the same error.
		_, e1 := basin.Stay(b, state(c.volume), c.l, 0)
		_, e2 := basin.Floods(b, state(c.volume), c.l)
		if e1 != c.e || e2 != c.e {
			t.Errorf("%d: %d, %d; not %d", i, e1, e2, c.e)
		}
	}
	states, flows, e := basin.Run(b, state(100), []api.BsTick{tick(0, 10, 0), tick(0, 0, 105), tick(0, 10, 10)})
	if !same(states, []api.BsState{state(110), state(5), state(5)}) || !same(flows, []api.BsFlows{{River: 10}, {Out: 105}, {River: 10, Out: 10}}) || e != api.OK {
		t.Errorf("Run: %v, %v, %d", states, flows, e)
	}
}

// P4.3: any ticks of any basin are as the definitions say.
func TestP4_3Any(t *testing.T) {
	r := rand.New(rand.NewSource(43))
	seen := map[api.Errno]int{}
	for i := range 6000 {
		b, l := anyBasin(r), anyTicks(r)
		s := anyState(r, b)
		if i%2 == 0 {
			b, l = hugeBasin(r), nil
			for range r.Intn(20) {
				l = append(l, hugeTick(r))
			}
			s = state(from(r, b.Rows[0].Volume, 1000000000))
			for _, p := range b.Polders {
				s.Filled = append(s.Filled, from(r, 0, p.Room))
			}
		}
		need(t, b)
		want, wantE := runOf(b, s, l)
		states, flows, e := basin.Run(b, s, l)
		if !same(ran{states, flows}, want) || e != wantE {
			t.Fatalf("%+v, %v, %v: %v, %v, %d; not %v, %d", b, s, l, states, flows, e, want, wantE)
		}
		seen[e]++
		for _, x := range l {
			want, f, wantE := stepOf(b, s, x)
			after, g, e := basin.Step(b, s, x)
			if !same(after, want) || !same(g, f) || e != wantE {
				t.Fatalf("%+v, %v, %v: %v, %v, %d; not %v, %v, %d", b, s, x, after, g, e, want, f, wantE)
			}
		}
	}
	if seen[api.OK] < 3000 || seen[api.ErrLong] < 300 {
		t.Errorf("%v: too few", seen)
	}
}

// P4.8: what flows in, less what flows out, is what there is more, in each tick and over all of them.
func TestP4_8Balance(t *testing.T) {
	r := rand.New(rand.NewSource(48))
	for range 1500 {
		b, l := anyBasin(r), anyTicks(r)
		s := anyState(r, b)
		states, flows, e := basin.Run(b, s, l)
		if e != api.OK {
			t.Fatalf("%+v: %d", b, e)
		}
		before := s
		for i, after := range states {
			f := flows[i]
			v := before.Volume + f.River + f.Over + f.Leak - f.Out
			for j, n := range f.Taken {
				v -= n
				if n < 0 || after.Filled[j] != before.Filled[j]+n || after.Filled[j] > b.Polders[j].Room {
					t.Errorf("%+v: %v, %v, %v", b, before, f, after)
				}
			}
			if v != after.Volume || v < b.Rows[0].Volume || f.River != l[i].River || f.Over < 0 || f.Out < 0 || f.Out > l[i].Out {
				t.Errorf("%+v: %v, %v, %v", b, before, f, after)
			}
			before = after
		}
		all, e := basin.Total(b, flows)
		v := s.Volume + all.River + all.Over + all.Leak - all.Out
		for j, n := range all.Taken {
			v -= n
			if before.Filled[j] != s.Filled[j]+n {
				t.Errorf("%+v: %v, %v, %v", b, s, all, before)
			}
		}
		if v != before.Volume || e != api.OK {
			t.Errorf("%+v: %v, %v, %v, %d", b, s, all, before, e)
		}
	}
}

// P4.13: a run is the same in parts.
func TestP4_13Parts(t *testing.T) {
	r := rand.New(rand.NewSource(413))
	for range 600 {
		b, l, m := anyBasin(r), anyTicks(r), anyTicks(r)
		s := anyState(r, b)
		states, flows, e := basin.Run(b, s, l)
		last := s
		if len(states) > 0 {
			last = states[len(states)-1]
		}
		more, flowed, f := basin.Run(b, last, m)
		all, g, h := basin.Run(b, s, append(slices.Clone(l), m...))
		if e != api.OK || f != api.OK || h != api.OK || !same(all, append(states, more...)) || !same(g, append(flows, flowed...)) {
			t.Errorf("%+v, %v, %v, %v: %v and %v, but %v", b, s, l, m, states, more, all)
		}
	}
}

// P4.13: without water that moves nothing changes.
func TestP4_13Still(t *testing.T) {
	r := rand.New(rand.NewSource(4130))
	for range 600 {
		b := anyBasin(r)
		s := anyState(r, b)
		b.Leak, b.Over = 0, 0
		at := ceil(levelOf(b, s.Volume))
		if at > api.MaxLevel {
			continue // no sill is as high
		}
		for i := range b.Polders {
			b.Polders[i].Sill = max(b.Polders[i].Sill, at)
		}
		need(t, b)
		l := []api.BsTick{tick(from(r, -20000, 20000), 0, 0), tick(from(r, -20000, 20000), 0, 0)}
		states, flows, e := basin.Run(b, s, l)
		f := api.BsFlows{Taken: make([]int, len(b.Polders))}
		if !same(states, []api.BsState{s, s}) || !same(flows, []api.BsFlows{f, f}) || e != api.OK {
			t.Errorf("%+v, %v: %v, %v, %d", b, s, states, flows, e)
		}
	}
}
