package basin_test

import (
	"math/rand"
	"testing"

	"barrage/api"
	"barrage/basin"
)

// pair is two histories of a basin, the second one with at least as much water everywhere.
type pair struct {
	b          api.BsBasin
	less, more api.BsState
	low, high  []api.BsTick
	limit      int
}

// anyPair returns a pair that is often the same but for one thing.
func anyPair(r *rand.Rand) pair {
	x := pair{b: anyBasin(r)}
	x.limit = anyLimit(r, x.b)
	x.less = anyState(r, x.b)
	if r.Intn(4) == 0 {
		x.less.Volume += 10000000
	}
	x.more = copyState(x.less)
	add := func(most int) int {
		if r.Intn(2) == 0 {
			return 0
		}
		return from(r, 0, most)
	}
	x.more.Volume += add(20)
	for i, p := range x.b.Polders {
		x.more.Filled[i] += add(min(5, p.Room-x.more.Filled[i]))
	}
	for range r.Intn(12) {
		t := anyTick(r)
		x.low = append(x.low, t)
		x.high = append(x.high, tick(t.Outer+add(9), t.River+add(5), max(t.Out-add(5), 0)))
	}
	return x
}

// P4.9: no volume, and nothing that is filled, is less.
func TestP4_9States(t *testing.T) {
	r := rand.New(rand.NewSource(49))
	greater := 0
	for range 5000 {
		x := anyPair(r)
		low, _, e := basin.Run(x.b, x.less, x.low)
		high, _, f := basin.Run(x.b, x.more, x.high)
		if e != api.OK || f != api.OK {
			t.Fatalf("%+v: %d, %d", x, e, f)
		}
		for i := range low {
			if low[i].Volume > high[i].Volume {
				t.Errorf("%+v: after %d %v and %v", x, i, low[i], high[i])
			}
			for j := range x.b.Polders {
				if low[i].Filled[j] > high[i].Filled[j] {
					t.Errorf("%+v: after %d %v and %v", x, i, low[i], high[i])
				}
			}
			if !same(low[i], high[i]) {
				greater++
			}
		}
	}
	if greater < 10000 {
		t.Errorf("%d states are greater: too few", greater)
	}
}

// P4.9: it stays within a limit no longer, more has to run off, rivers may bring less, and polders are flooded no later.
func TestP4_9Answers(t *testing.T) {
	r := rand.New(rand.NewSource(490))
	differ := map[string]int{}
	for range 8000 {
		x := anyPair(r)
		if len(x.low) > 0 {
			// A limit that it just keeps makes the most of what is different.
			states, _, _ := basin.Run(x.b, x.less, x.low)
			s, _ := basin.Level(x.b, states[r.Intn(len(states))].Volume)
			x.limit = min(s.Hi, api.MaxLevel)
		}
		low, _ := basin.Stay(x.b, x.less, x.low, x.limit)
		high, _ := basin.Stay(x.b, x.more, x.high, x.limit)
		if high > low {
			t.Errorf("%+v: Stay: %d, but %d", x, low, high)
		}
		if high < low {
			differ["Stay"]++
		}
		// Not to be had at all is more than any number that has to run off, and less than any that rivers may bring.
		need, e := basin.Need(x.b, x.less, x.low, x.limit)
		more, f := basin.Need(x.b, x.more, x.high, x.limit)
		if e == api.ErrDown && f != api.ErrDown || f == api.OK && more < need {
			t.Errorf("%+v: Need: %d, %d, but %d, %d", x, need, e, more, f)
		}
		if e != f || need != more {
			differ["Need"]++
		}
		spare, e := basin.Spare(x.b, x.less, x.low, x.limit)
		less, f := basin.Spare(x.b, x.more, x.high, x.limit)
		if e == api.ErrDown && f != api.ErrDown || f == api.OK && less > spare {
			t.Errorf("%+v: Spare: %d, %d, but %d, %d", x, spare, e, less, f)
		}
		if e != f || spare != less {
			differ["Spare"]++
		}
		differ["Floods"] += floodsNoLater(t, x)
	}
	for _, what := range []string{"Stay", "Need", "Spare", "Floods"} {
		if n := differ[what]; n < 20 {
			t.Errorf("%s: %d differ: too few", what, n)
		}
	}
}

// floodsNoLater tests that a polder with as much in it is flooded no later with more water, and returns how many are flooded earlier.
func floodsNoLater(t *testing.T, x pair) int {
	earlier := 0
	low, e := basin.Floods(x.b, x.less, x.low)
	high, f := basin.Floods(x.b, x.more, x.high)
	if e != api.OK || f != api.OK {
		t.Fatalf("%+v: %d, %d", x, e, f)
	}
	for i := range low {
		if x.less.Filled[i] != x.more.Filled[i] || low[i] == high[i] {
			continue
		}
		if high[i] == -1 || low[i] != -1 && high[i] > low[i] {
			t.Errorf("%+v: %d is flooded at %d, but at %d", x, i, low[i], high[i])
		}
		earlier++
	}
	return earlier
}
