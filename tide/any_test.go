package tide_test

import (
	"math/rand"
	"reflect"
	"slices"
	"testing"

	"barrage/api"
	"barrage/tide"
)

// The examples of the chapter.
func TestExamples(t *testing.T) {
	for tick, want := range map[int]api.Span{0: sp(90, 110), 1: sp(144, 165), 37: sp(90, 110)} {
		if s, e := tide.Level(moon(), tick); s != want || e != api.OK {
			t.Errorf("Level at %d: %v, %d", tick, s, e)
		}
	}
	if n, e := tide.Period(moon()); n != 74 || e != api.OK {
		t.Errorf("Period: %d, %d", n, e)
	}
	if l, e := tide.High(moon(), 18, 2); !slices.Equal(l, []int{18, 19}) || e != api.OK {
		t.Errorf("High of 18 and 19: %v, %d", l, e)
	}
	if l, e := tide.High(moon(), 0, 2); !slices.Equal(l, []int{1}) || e != api.OK {
		t.Errorf("High of 0 and 1: %v, %d", l, e)
	}
	for _, c := range []struct {
		tick, now int
		want      api.Span
		e         api.Errno
	}{{90, 100, sp(480, 520), api.OK}, {92, 100, sp(380, 620), api.OK}, {90, 110, sp(480, 520), api.OK}, {110, 110, sp(580, 630), api.OK}, {89, 89, sp(0, 0), api.ErrNone}} {
		if s, e := tide.Says(pier(), c.tick, c.now); s != c.want || e != c.e {
			t.Errorf("Says at %d, now %d: %v, %d", c.tick, c.now, s, e)
		}
	}
	l := []api.TdGauge{pier(), saying("lock", 600, 700), saying("weir", 0, 10)}
	for _, c := range []struct {
		n, wrong int
		want     api.Span
		e        api.Errno
	}{{2, 0, sp(600, 630), api.OK}, {3, 0, sp(0, 0), api.ErrDown}, {3, 1, sp(600, 630), api.OK}} {
		if s, e := tide.Sound(l[:c.n], c.wrong, 110, 110); s != c.want || e != c.e {
			t.Errorf("Sound of %d, %d wrong: %v, %d", c.n, c.wrong, s, e)
		}
	}
	if n, others, e := tide.Agree(l, 110, 110); n != 2 || !slices.Equal(others, []int{2}) || e != api.OK {
		t.Errorf("Agree: %d, %v, %d", n, others, e)
	}
	if s, e := tide.Fit(pier(), 1, 110, []api.Span{sp(590, 595)}); s != sp(30, 40) || e != api.OK {
		t.Errorf("Fit: %v, %d", s, e)
	}
}

// input is arguments for all functions.
type input struct {
	table                           api.TdTable
	gauges                          []api.TdGauge
	levels                          []api.Span
	name                            string
	tick, now, n, from, wrong, what int
}

// copyInput returns arguments that share no memory with x.
func copyInput(x input) input {
	x.table, x.gauges, x.levels = copyTable(x.table), copyGauges(x.gauges), slices.Clone(x.levels)
	return x
}

// output is the results of all functions; the lists are new memory.
type output struct {
	plain  []any
	levels []api.Span
	lists  [2][]int
}

// all calls all functions.
func all(x input) output {
	var o output
	put := func(l ...any) { o.plain = append(o.plain, l...) }
	put(tide.Name(x.name))
	at, e := tide.Check(x.table)
	put(at, e)
	s, e := tide.Level(x.table, x.tick)
	put(s, e)
	o.levels, e = tide.Levels(x.table, x.from, x.n)
	put(e)
	o.lists[0], e = tide.High(x.table, x.from, x.n)
	put(e)
	n, e := tide.Period(x.table)
	put(n, e)
	for _, g := range x.gauges {
		part, at, e := tide.CheckGauge(g)
		put(part, at, e)
		s, e = tide.Says(g, x.tick, x.now)
		put(s, e)
		s, e = tide.Fit(g, x.what, x.from, x.levels)
		put(s, e)
	}
	s, e = tide.Sound(x.gauges, x.wrong, x.tick, x.now)
	put(s, e)
	n, o.lists[1], e = tide.Agree(x.gauges, x.tick, x.now)
	put(n, e)
	s, e = tide.Residual(x.table, x.gauges, x.wrong, x.tick, x.now)
	put(s, e)
	return o
}

// odd returns a number that is right, at a limit or beyond it, or far beyond.
func odd(r *rand.Rand) int {
	switch r.Intn(8) {
	case 0:
		return wild()[r.Intn(len(wild()))]
	case 1:
		return []int{-30000, -20001, -20000, -10000, -5000, -1, 0, 1, 2, 8, 12, 48, 60, 400, 1000, 5000, 10000, 20000, 30000, 100000, 200000, 200001}[r.Intn(22)]
	}
	return r.Intn(120)
}

// oddInput returns arguments of which many are not right.
func oddInput(r *rand.Rand) input {
	x := input{
		table: anyTable(r, 50), gauges: anyGauges(r, 5), name: string(rune(odd(r))) + label(3),
		tick: odd(r), now: odd(r), n: odd(r), from: odd(r), wrong: odd(r) % 7, what: odd(r) % 3,
	}
	for range r.Intn(5) {
		x.levels = append(x.levels, sp(odd(r), odd(r)))
	}
	if len(x.table.Consts) > 0 && r.Intn(2) == 0 {
		c := &x.table.Consts[r.Intn(len(x.table.Consts))]
		*[]*int{&x.table.Mean, &c.Offset, &c.Step, &c.Den, &c.Slack, &c.Heights[0]}[r.Intn(6)] = odd(r)
		c.Heights = c.Heights[:r.Intn(len(c.Heights)+1)]
	}
	for i := range x.gauges {
		g := &x.gauges[i]
		for range r.Intn(4) {
			g.Datums = append(g.Datums, api.TdDatum{From: odd(r), Shift: sp(odd(r), odd(r))})
			g.Readings = append(g.Readings, api.TdReading{Tick: odd(r), Value: odd(r)})
		}
		if r.Intn(3) == 0 {
			*[]*int{&g.Error, &g.Rate, &g.Datums[0].From, &g.Datums[0].Shift.Hi}[r.Intn(4)] = odd(r)
		}
		if r.Intn(9) == 0 {
			g.Datums = nil
		}
	}
	return x
}

// rightInput returns arguments of which most are right. Nothing in them is in order, so that it shows if something is put in order.
func rightInput(r *rand.Rand) input {
	x := input{
		table: anyTable(r, 50), gauges: anyGauges(r, 5), name: label(5),
		tick: 100 + r.Intn(20), now: 100 + r.Intn(20), n: r.Intn(9), from: 105 + r.Intn(5), wrong: r.Intn(3),
	}
	for range r.Intn(9) {
		lo := from(r, -30, 30)
		x.levels = append(x.levels, sp(lo, lo+r.Intn(30)))
	}
	r.Shuffle(len(x.gauges), func(i, j int) { x.gauges[i], x.gauges[j] = x.gauges[j], x.gauges[i] })
	r.Shuffle(len(x.table.Consts), func(i, j int) {
		x.table.Consts[i], x.table.Consts[j] = x.table.Consts[j], x.table.Consts[i]
	})
	return x
}

// copyOutput returns results that share no memory with o.
func copyOutput(o output) output {
	o.plain, o.levels = slices.Clone(o.plain), slices.Clone(o.levels)
	for i := range o.lists {
		o.lists[i] = slices.Clone(o.lists[i])
	}
	return o
}

// overwrite changes all memory of results.
func overwrite(o output) {
	for i := range o.levels {
		o.levels[i] = sp(-7, -7)
	}
	for _, l := range o.lists {
		for i := range l {
			l[i] = -7
		}
	}
}

// P1.15: any arguments are accepted, and not modified; the same ones have the same results, and these are new memory.
func TestP1_15Any(t *testing.T) {
	r := rand.New(rand.NewSource(15))
	all(input{})
	all(input{gauges: make([]api.TdGauge, 9), levels: make([]api.Span, 500)})
	for i := range 3000 {
		x := oddInput(r)
		if i%2 == 0 {
			x = rightInput(r)
		}
		before := copyInput(x)
		first := all(x)
		if !reflect.DeepEqual(x, before) {
			t.Fatalf("%+v was modified", before)
		}
		second := all(x)
		kept := copyOutput(second)
		if !reflect.DeepEqual(first, kept) {
			t.Fatalf("%+v: %v, then %v", x, first, second)
		}
		overwrite(first)
		if !reflect.DeepEqual(second, kept) {
			t.Fatalf("%+v: two results share memory", before)
		}
		overwrite(second)
		if !reflect.DeepEqual(x, before) {
			t.Fatalf("%+v: a result shares its memory", before)
		}
		if !reflect.DeepEqual(all(x), kept) {
			t.Fatalf("%+v: results are kept between calls", before)
		}
	}
}
