package basin_test

import (
	"math/rand"
	"slices"
	"testing"

	"barrage/api"
	"barrage/basin"
)

// rivers returns ticks in which nothing happens but what rivers bring and what runs off: a negative number is this.
func rivers(l ...int) []api.BsTick {
	var out []api.BsTick
	for _, n := range l {
		out = append(out, tick(-20000, max(n, 0), max(-n, 0)))
	}
	return out
}

// stay tests for how many ticks the level of a basin stays within a limit.
func stay(t *testing.T, b api.BsBasin, s api.BsState, l []api.BsTick, limit, want int, wantE api.Errno) {
	t.Helper()
	need(t, b)
	n, e := basin.Stay(b, s, l, limit)
	gives(t, limit, n, e, want, wantE)
}

// P4.4: the first tick after which it is above the limit counts, and no other one.
func TestP4_4Stay(t *testing.T) {
	l := rivers(10, 1, 19, -30, 60, -60)
	// The levels 5, 5.5, 15, 0, 30, 0.
	for limit, want := range map[int]int{0: 0, 4: 0, 5: 1, 6: 2, 14: 2, 15: 4, 29: 4, 30: 6, 31: 6, 20000: 6} {
		stay(t, tub(), state(0), l, limit, want, api.OK)
	}
	stay(t, tub(), state(0), nil, 0, 0, api.OK)
	stay(t, tub(), state(100000), nil, 0, 0, api.OK)
	// It is after a tick that the level counts, not before it.
	stay(t, tub(), state(100), rivers(-30), 34, 0, api.OK)
	stay(t, tub(), state(100), rivers(-30), 35, 1, api.OK)
	stay(t, tub(api.BsPolder{Name: "a", Take: 2, Room: 90}), state(100, 0), rivers(0, 0), 5, 2, api.OK)
	stay(t, tub(api.BsPolder{Name: "a", Take: 2, Room: 90}), state(100, 0), rivers(0, 0), 4, 0, api.OK)
	b := tub()
	b.Rows = rows(-1000, 0, 1000, 4000)
	for limit, want := range map[int]int{-1000: 0, -996: 0, -995: 1, -994: 2, -986: 2, -985: 4, -971: 4, -970: 6} {
		stay(t, b, state(0), l, limit, want, api.OK)
	}
}

// P4.4, P4.6: limits at both ends of what they can be and beyond them, and the order of errors.
func TestP4_4Limits(t *testing.T) {
	b := tub()
	b.Rows = rows(-500, 40, 500, 2040)
	for _, limit := range append(wild(), -20001, -20000, -501, -500, 20000, 20001) {
		n, e := basin.Stay(b, state(40), rivers(0), limit)
		need, f := basin.Need(b, state(40), rivers(0), limit)
		spare, g := basin.Spare(b, state(40), rivers(0), limit)
		if -500 <= limit && limit <= 20000 {
			if n != 1 || need != 0 || spare != 2*(limit+500) || e != api.OK || f != api.OK || g != api.OK {
				t.Errorf("%d: %d, %d, %d, %d, %d, %d", limit, n, e, need, f, spare, g)
			}
		} else if n != 0 || need != 0 || spare != 0 || e != api.ErrRange || f != api.ErrRange || g != api.ErrRange {
			t.Errorf("%d: %d, %d, %d, %d, %d, %d", limit, n, e, need, f, spare, g)
		}
	}
	const most = 1000000000
	for i, c := range []struct {
		volume, limit int
		l             []api.BsTick
		stay, others  api.Errno
	}{
		{40, -501, rivers(make([]int, 301)...), api.ErrLong, api.ErrRange}, {40, 0, rivers(make([]int, 301)...), api.ErrLong, api.ErrLong},
		{most, -501, rivers(1), api.ErrLong, api.ErrRange}, {most, 0, rivers(1), api.ErrLong, api.ErrLong}, {most, 0, rivers(0, 0, 1), api.ErrLong, api.ErrLong},
		{40, 0, rivers(-1, 10000001), api.ErrRange, api.ErrRange}, {40, 20001, rivers(1), api.ErrRange, api.ErrRange},
		{40, -501, []api.BsTick{{Outer: 20001}}, api.ErrRange, api.ErrRange}, {most, 0, []api.BsTick{{River: 1}, {Outer: 20001}}, api.ErrLong, api.ErrLong},
		{39, -501, rivers(make([]int, 301)...), api.ErrRange, api.ErrRange}, {39, -501, rivers(1), api.ErrRange, api.ErrRange},
	} {
		n, e := basin.Stay(b, state(c.volume), c.l, c.limit)
		gives(t, i, n, e, 0, c.stay)
		n, e = basin.Need(b, state(c.volume), c.l, c.limit)
		gives(t, i, n, e, 0, c.others)
		n, e = basin.Spare(b, state(c.volume), c.l, c.limit)
		gives(t, i, n, e, 0, c.others)
	}
}

// P4.4, P4.11: in the ticks that are counted the level is within the limit, and above it in the next one.
func TestP4_11Stay(t *testing.T) {
	r := rand.New(rand.NewSource(411))
	counted := map[bool]int{}
	for range 3000 {
		b, l := anyBasin(r), anyTicks(r)
		s, limit := anyState(r, b), anyLimit(r, b)
		n, e := basin.Stay(b, s, l, limit)
		gives(t, b, n, e, stayOf(b, s, l, limit), api.OK)
		states, _, _ := basin.Run(b, s, l)
		for i, s := range states[:min(n+1, len(l))] {
			x, e := basin.Level(b, s.Volume)
			if e != api.OK || (i < n) != (x.Hi <= limit) {
				t.Errorf("%+v: %d of %d: %v, %d", b, i, n, x, e)
			}
		}
		counted[n < len(l)]++
	}
	if counted[true] < 1000 || counted[false] < 500 {
		t.Errorf("%v: too few", counted)
	}
}

// P4.5: in which tick water runs into a polder first.
func TestP4_5Floods(t *testing.T) {
	b := tub(
		api.BsPolder{Name: "a", Sill: 20, Take: 1, Room: 500}, api.BsPolder{Name: "b", Sill: 20, Take: 2, Room: 3}, api.BsPolder{Name: "c", Sill: 20},
		api.BsPolder{Name: "d", Sill: 20, Take: 1}, api.BsPolder{Name: "e", Sill: 20, Room: 500}, api.BsPolder{Name: "f", Sill: 25, Take: 2, Room: 500},
	)
	for i, c := range []struct {
		s    api.BsState
		l    []api.BsTick
		want []int
	}{
		{state(0, make([]int, 6)...), nil, ints(-1, -1, -1, -1, -1, -1)},
		{state(0, make([]int, 6)...), rivers(20, 20, 0), ints(-1, -1, -1, -1, -1, -1)},
		{state(0, make([]int, 6)...), rivers(20, 21, 0), ints(-1, 1, -1, -1, -1, -1)}, // 20.5: too little for a m3 into a
		{state(0, make([]int, 6)...), rivers(20, 22, 0), ints(1, 1, -1, -1, -1, -1)},
		{state(0, make([]int, 6)...), rivers(20, 20, 0, 16), ints(3, 3, -1, -1, -1, -1)}, // the others take what would run into f
		{state(0, make([]int, 6)...), rivers(20, 20, 0, 60, 0), ints(3, 3, -1, -1, -1, 3)},
		{state(0, 500, 3, 0, 0, 0, 0), rivers(0, 80, 0), ints(-1, -1, -1, -1, -1, 1)},
		{state(80, 499, 2, 0, 0, 0, 500), rivers(0, 80), ints(0, 0, -1, -1, -1, -1)},
		{state(80, make([]int, 6)...), rivers(-40, 0), ints(-1, -1, -1, -1, -1, -1)},
		{state(80, 500, 3, 0, 0, 0, 0), rivers(0, 80, -100, 80), ints(-1, -1, -1, -1, -1, 0)},
	} {
		need(t, b)
		if l, e := basin.Floods(b, c.s, c.l); !slices.Equal(l, c.want) || e != api.OK {
			t.Errorf("%d: %v, %d; not %v", i, l, e, c.want)
		}
	}
	if l, e := basin.Floods(tub(), state(50), rivers(1, 2)); len(l) != 0 || e != api.OK {
		t.Errorf("no polders: %v, %d", l, e)
	}
	r := rand.New(rand.NewSource(45))
	for range 1500 {
		b, l := anyBasin(r), anyTicks(r)
		s := anyState(r, b)
		x, _ := runOf(b, s, l)
		var want []int
		for i := range b.Polders {
			want = append(want, slices.IndexFunc(x.Flows, func(f api.BsFlows) bool { return f.Taken[i] > 0 }))
		}
		if got, e := basin.Floods(b, s, l); !slices.Equal(got, want) || e != api.OK {
			t.Errorf("%+v, %v, %v: %v, %d; not %v", b, s, l, got, e, want)
		}
	}
}

// P4.6: how much more has to run off.
func TestP4_6Need(t *testing.T) {
	full := tub()
	full.Rows = rows(0, 0, 1000, 1000000000)
	for i, c := range []struct {
		b      api.BsBasin
		volume int
		l      []api.BsTick
		limit  int
		want   int
		e      api.Errno
	}{
		{tub(), 0, rivers(10, 10, 10), 15, 0, api.OK}, {tub(), 0, rivers(10, 10, 10), 14, 1, api.OK}, {tub(), 0, rivers(10, 10, 10), 5, 7, api.OK},
		{tub(), 0, rivers(10, 10, 10), 4, 8, api.OK}, {tub(), 0, rivers(10, 10, 10), 0, 10, api.OK}, {tub(), 0, nil, 0, 0, api.OK}, {tub(), 900, nil, 0, 0, api.OK},
		{tub(), 100, rivers(0), 49, 2, api.OK}, {tub(), 100, rivers(0, 0), 49, 2, api.OK}, {tub(), 100, rivers(-1, 0), 49, 1, api.OK}, {tub(), 100, rivers(-2, 0), 49, 0, api.OK},
		// The last tick needs more than the first one, or it is the other way round.
		{tub(), 0, rivers(0, 0, 40), 5, 30, api.OK}, {tub(), 10, rivers(0, 40), 5, 30, api.OK}, {tub(), 30, rivers(0, -40), 5, 20, api.OK},
		// As much as can run off, and more.
		{tub(), 10000010, rivers(0), 5, 10000000, api.OK}, {tub(), 10000011, rivers(0), 5, 0, api.ErrDown}, {tub(), 10000010, rivers(0, 0), 5, 10000000, api.OK},
		{tub(), 10000010, rivers(-1, 0), 5, 9999999, api.OK}, {tub(), 10000010, rivers(-10000000, 0), 5, 0, api.OK}, {tub(), 10000010, rivers(-9999999, 9000000), 5, 9000000, api.OK},
		{tub(), 10000010, rivers(-10000000, 500), 5, 500, api.OK}, {tub(), 10000010, rivers(-10000000, 10000000), 5, 10000000, api.OK},
		{tub(), 10000011, rivers(-10000000, 0), 5, 0, api.ErrDown}, {tub(), 500, []api.BsTick{tick(0, 10000000, 0), tick(0, 0, 0)}, 0, 0, api.ErrDown},
		{full, 20000000, rivers(0), 10, 10000000, api.OK}, {full, 20000001, rivers(0, 0), 10, 0, api.ErrDown}, {full, 20000001, rivers(0), 11, 9000001, api.OK},
	} {
		need(t, c.b)
		n, e := basin.Need(c.b, state(c.volume), c.l, c.limit)
		gives(t, i, n, e, c.want, c.e)
	}
	// It leaks in more if it is lower inside: with 7 m3 off in each tick 13 of 20 are left after the first one, and 13 leak in then, of which 6 are left.
	leaky := tub()
	leaky.Leak = 1
	for limit, want := range map[int]int{15: 0, 14: 1, 10: 7, 9: 8, 0: 20} {
		n, e := basin.Need(leaky, state(0), []api.BsTick{tick(20, 0, 0), tick(20, 0, 0)}, limit)
		gives(t, limit, n, e, want, api.OK)
	}
	// What runs into a polder has not to run off.
	b := tub(api.BsPolder{Name: "a", Take: 1, Room: 30})
	n, e := basin.Need(b, state(0, 0), rivers(40), 9)
	gives(t, "a polder", n, e, 4, api.OK) // 36, of which 18 run into it
	n, e = basin.Need(b, state(0, 20), rivers(40), 9)
	gives(t, "a fuller polder", n, e, 12, api.OK)
}

// P4.6: how much more rivers may bring.
func TestP4_6Spare(t *testing.T) {
	const most = 1000000000
	full := tub()
	full.Rows = rows(0, 0, 10000, most)
	for i, c := range []struct {
		b      api.BsBasin
		volume int
		l      []api.BsTick
		limit  int
		want   int
		e      api.Errno
	}{
		{tub(), 0, rivers(10, 10, 10), 15, 0, api.OK}, {tub(), 0, rivers(10, 10, 10), 14, 0, api.ErrDown}, {tub(), 0, rivers(10, 10, 10), 16, 0, api.OK},
		{tub(), 0, rivers(10, 10, 10), 17, 1, api.OK}, {tub(), 0, rivers(10, 10, 10), 20, 3, api.OK}, {tub(), 0, rivers(10, 10, -10), 20, 10, api.OK},
		{tub(), 0, rivers(40, -100), 20, 0, api.OK}, {tub(), 0, rivers(41, -100), 20, 0, api.ErrDown}, {tub(), 0, rivers(-100, 39), 20, 1, api.OK}, {tub(), 50, rivers(-10, 0), 20, 0, api.OK},
		{tub(), 50, rivers(-9, 0), 20, 0, api.ErrDown}, {tub(), 0, nil, 0, 10000000, api.OK}, {tub(), most, nil, 0, 10000000, api.OK},
		// As much as rivers can bring.
		{full, 0, rivers(0), 100, 10000000, api.OK}, {full, 0, rivers(0), 99, 9900000, api.OK}, {full, 0, rivers(0, 0), 100, 5000000, api.OK}, {full, 0, rivers(0), 20000, 10000000, api.OK},
		{full, 0, rivers(5), 20000, 9999995, api.OK}, {full, 0, rivers(0, 7, 3), 20000, 9999993, api.OK}, {full, 0, rivers(10000000, 0), 20000, 0, api.OK},
		// As much as there can be.
		{full, most - 50, rivers(0), 20000, 50, api.OK}, {full, most - 50, rivers(-10), 20000, 50, api.OK}, {full, most - 50, rivers(-10, 0, 0), 20000, 20, api.OK}, {full, most, rivers(0), 20000, 0, api.OK},
		{full, most, rivers(0), 9999, 0, api.ErrDown},
	} {
		need(t, c.b)
		n, e := basin.Spare(c.b, state(c.volume), c.l, c.limit)
		gives(t, i, n, e, c.want, c.e)
	}
	// More leaks out if it is higher inside: with 20 m3 at 0 mm outside 10 of them do.
	leaky := tub()
	leaky.Leak = 1
	for limit, want := range map[int]int{0: 1, 1: 5, 2: 9, 5: 21} {
		n, e := basin.Spare(leaky, state(0), []api.BsTick{tick(0, 0, 0)}, limit)
		gives(t, limit, n, e, want, api.OK)
	}
	b := tub(api.BsPolder{Name: "a", Take: 1, Room: 30})
	n, e := basin.Spare(b, state(0, 0), rivers(40), 15)
	gives(t, "a polder", n, e, 20, api.OK) // 60, of which 30 run into it
	n, e = basin.Spare(b, state(0, 20), rivers(40), 15)
	gives(t, "a fuller polder", n, e, 0, api.OK)
}

// P4.6, P4.12: the least and the greatest number, compared with trying one after the other.
func TestP4_12Least(t *testing.T) {
	r := rand.New(rand.NewSource(412))
	down := map[string]int{}
	for range 600 {
		b, l := anyBasin(r), anyTicks(r)
		s, limit := anyState(r, b), anyLimit(r, b)
		if r.Intn(4) == 0 {
			s.Volume += 10000000 // about as much as can run off
		}
		n, e := basin.Need(b, s, l, limit)
		if e != api.OK {
			gives(t, b, n, e, 0, api.ErrDown)
			down["Need"]++
		}
		if can := keeps(b, s, l, limit, 0, 10000000); can != (e == api.OK) {
			t.Errorf("%+v, %v, %v: Need of %d: %d, %d", b, s, l, limit, n, e)
		}
		// Steps that grow, since what leaks out and back in takes many small ones.
		for m := 0; m < n; m += 1 + m/20 {
			if keeps(b, s, l, limit, 0, m) {
				t.Errorf("%+v, %v, %v: Need of %d: %d, not %d", b, s, l, limit, n, m)
			}
		}
		if e == api.OK && (n > 0 && keeps(b, s, l, limit, 0, n-1) || !keeps(b, s, l, limit, 0, n)) {
			t.Errorf("%+v, %v, %v: Need of %d: %d", b, s, l, limit, n)
		}
		n, e = basin.Spare(b, s, l, limit)
		if e != api.OK {
			gives(t, b, n, e, 0, api.ErrDown)
			down["Spare"]++
		}
		if can := keeps(b, s, l, limit, 0, 0); can != (e == api.OK) {
			t.Errorf("%+v, %v, %v: Spare of %d: %d, %d", b, s, l, limit, n, e)
		}
		if e == api.OK && (n < 10000000 && keeps(b, s, l, limit, n+1, 0) || !keeps(b, s, l, limit, n, 0)) {
			t.Errorf("%+v, %v, %v: Spare of %d: %d", b, s, l, limit, n)
		}
		for m := n + 1; e == api.OK && m < 2*n+20 && m < 10000000; m += 1 + m/20 {
			if keeps(b, s, l, limit, m, 0) {
				t.Errorf("%+v, %v, %v: Spare of %d: %d, not %d", b, s, l, limit, n, m)
			}
		}
	}
	if down["Need"] < 30 || down["Need"] > 570 || down["Spare"] < 30 || down["Spare"] > 570 {
		t.Errorf("%v: too few of one kind", down)
	}
}

// P4.7: the errors of Total, and their order.
func TestP4_7Errors(t *testing.T) {
	b := estuary()
	calm := api.BsFlows{Taken: ints(0, 0)}
	for i, c := range []struct {
		l []api.BsFlows
		e api.Errno
	}{
		{nil, api.OK}, {[]api.BsFlows{calm}, api.OK}, {slices.Repeat([]api.BsFlows{calm}, 300), api.OK}, {slices.Repeat([]api.BsFlows{calm}, 301), api.ErrLong},
		{make([]api.BsFlows, 301), api.ErrLong}, {make([]api.BsFlows, 300), api.ErrArg}, {[]api.BsFlows{calm, {Taken: ints(0)}}, api.ErrArg},
		{[]api.BsFlows{calm, {Taken: ints(0, 0, 0)}}, api.ErrArg}, {[]api.BsFlows{calm, {}}, api.ErrArg}, {[]api.BsFlows{{}, calm}, api.ErrArg},
		{[]api.BsFlows{{River: -1000000001, Taken: ints(0, 0)}, {}}, api.ErrArg}, {[]api.BsFlows{{}, {River: -1000000001, Taken: ints(0, 0)}}, api.ErrArg},
		{[]api.BsFlows{{Taken: ints(1000000001)}}, api.ErrArg},
	} {
		f, e := basin.Total(b, c.l)
		if e != c.e || e != api.OK && !isZero(result{value: f}) {
			t.Errorf("%d: %v, %d; not %d", i, f, e, c.e)
		}
	}
	for what, set := range map[string]func(f *api.BsFlows, n int){
		"River": func(f *api.BsFlows, n int) { f.River = n }, "Over": func(f *api.BsFlows, n int) { f.Over = n },
		"Leak": func(f *api.BsFlows, n int) { f.Leak = n }, "Out": func(f *api.BsFlows, n int) { f.Out = n },
		"first": func(f *api.BsFlows, n int) { f.Taken[0] = n }, "second": func(f *api.BsFlows, n int) { f.Taken[1] = n },
	} {
		for _, n := range append(wild(), -1000000001, -1000000000, 0, 1000000000, 1000000001) {
			x := api.BsFlows{Taken: ints(0, 0)}
			set(&x, n)
			want, wantE := x, api.OK
			if n < -1000000000 || n > 1000000000 {
				want, wantE = api.BsFlows{}, api.ErrRange
			}
			if f, e := basin.Total(b, []api.BsFlows{calm, x, calm}); !same(f, want) || e != wantE {
				t.Errorf("%s %d: %v, %d", what, n, f, e)
			}
		}
	}
}

// P4.7: sums of what flowed.
func TestP4_7Total(t *testing.T) {
	l := []api.BsFlows{{River: 1, Over: 20, Leak: -300, Out: 4000, Taken: ints(50000, 600000)}, {River: 7, Over: 80, Leak: 100, Out: 2000, Taken: ints(30000, 400000)}}
	for n, want := range []api.BsFlows{{Taken: ints(0, 0)}, l[0], {River: 8, Over: 100, Leak: -200, Out: 6000, Taken: ints(80000, 1000000)}} {
		if f, e := basin.Total(estuary(), l[:n]); !same(f, want) || e != api.OK {
			t.Errorf("%d: %v, %d; not %v", n, f, e, want)
		}
	}
	if f, e := basin.Total(tub(), []api.BsFlows{{Leak: -3}, {Leak: 5}}); !same(f, api.BsFlows{Leak: 2}) || e != api.OK {
		t.Errorf("no polders: %v, %d", f, e)
	}
	great := api.BsFlows{River: 1000000000, Over: 1000000000, Leak: -1000000000, Out: 1000000000, Taken: ints(1000000000, -1000000000)}
	want := api.BsFlows{River: 300000000000, Over: 300000000000, Leak: -300000000000, Out: 300000000000, Taken: ints(300000000000, -300000000000)}
	if f, e := basin.Total(estuary(), slices.Repeat([]api.BsFlows{great}, 300)); !same(f, want) || e != api.OK {
		t.Errorf("great: %v, %d", f, e)
	}
}
