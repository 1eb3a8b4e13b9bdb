package basin_test

import (
	"math/big"

	"barrage/api"
)

// What is here follows the definitions of the chapter alone, with fractions of any size, and knows nothing of how the package does it.

// rat returns a whole number as a fraction.
func rat(n int) *big.Rat { return new(big.Rat).SetInt64(int64(n)) }

// floor returns a fraction, rounded down.
func floor(x *big.Rat) int {
	q, m := new(big.Int).DivMod(x.Num(), x.Denom(), new(big.Int))
	if m.Sign() < 0 {
		panic("the remainder is not below 0")
	}
	return int(q.Int64())
}

// ceil returns a fraction, rounded up.
func ceil(x *big.Rat) int { return -floor(new(big.Rat).Neg(x)) }

// levelOf returns the exact level of a volume.
func levelOf(b api.BsBasin, volume int) *big.Rat {
	last := 0
	for i, r := range b.Rows {
		if r.Volume <= volume {
			last = i
		}
	}
	if last == len(b.Rows)-1 {
		last--
	}
	lo, hi := b.Rows[last], b.Rows[last+1]
	x := big.NewRat(int64(hi.Level-lo.Level), int64(hi.Volume-lo.Volume))
	x.Mul(x, rat(volume-lo.Volume))
	return x.Add(x, rat(lo.Level))
}

// times returns a rate times the difference of two levels.
func times(rate int, x, y *big.Rat) *big.Rat {
	d := new(big.Rat).Sub(x, y)
	return d.Mul(d, rat(rate))
}

// stepOf does a tick.
func stepOf(b api.BsBasin, s api.BsState, t api.BsTick) (api.BsState, api.BsFlows, api.Errno) {
	outOf := func(x, lo, hi int) bool { return x < lo || x > hi }
	if outOf(t.Outer, -20000, 20000) || outOf(t.River, 0, 10000000) || outOf(t.Out, 0, 10000000) {
		return api.BsState{}, api.BsFlows{}, api.ErrRange
	}
	v, least := s.Volume, b.Rows[0].Volume
	f := api.BsFlows{River: t.River}
	v += f.River
	long := v > 1000000000
	if t.Outer > b.Crest {
		f.Over = b.Over * (t.Outer - b.Crest)
		v += f.Over
	}
	long = long || v > 1000000000
	f.Leak = floor(times(b.Leak, rat(t.Outer), levelOf(b, v)))
	if f.Leak < 0 && v+f.Leak < least {
		f.Leak = least - v
	}
	v += f.Leak
	if long || v > 1000000000 {
		return api.BsState{}, api.BsFlows{}, api.ErrLong
	}
	f.Out = t.Out
	if v-least < f.Out {
		f.Out = v - least
	}
	v -= f.Out
	var filled []int
	for i, p := range b.Polders {
		n := 0
		if level := levelOf(b, v); level.Cmp(rat(p.Sill)) > 0 {
			n = floor(times(p.Take, level, rat(p.Sill)))
			if room := p.Room - s.Filled[i]; room < n {
				n = room
			}
		}
		v -= n
		filled = append(filled, s.Filled[i]+n)
		f.Taken = append(f.Taken, n)
	}
	return state(v, filled...), f, api.OK
}

// runOf does ticks one after the other.
func runOf(b api.BsBasin, s api.BsState, l []api.BsTick) (x ran, e api.Errno) {
	for _, t := range l {
		after, f, e := stepOf(b, s, t)
		if e != api.OK {
			return ran{}, e
		}
		x.States, x.Flows = append(x.States, after), append(x.Flows, f)
		s = after
	}
	return x, api.OK
}

// stayOf returns for how many ticks the level stays within a limit; the ticks have no error.
func stayOf(b api.BsBasin, s api.BsState, l []api.BsTick, limit int) int {
	x, _ := runOf(b, s, l)
	for i, s := range x.States {
		if levelOf(b, s.Volume).Cmp(rat(limit)) > 0 {
			return i
		}
	}
	return len(l)
}

// keeps reports whether the level stays within a limit in each tick, with so much more of what rivers bring and runs off.
func keeps(b api.BsBasin, s api.BsState, l []api.BsTick, limit, river, out int) bool {
	var changed []api.BsTick
	for _, t := range l {
		changed = append(changed, api.BsTick{Outer: t.Outer, River: t.River + river, Out: min(t.Out+out, 10000000)})
	}
	if _, e := runOf(b, s, changed); e != api.OK {
		return false
	}
	return stayOf(b, s, changed, limit) == len(l)
}
