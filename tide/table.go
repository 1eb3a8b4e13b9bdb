package tide

import (
	"slices"

	"barrage/api"
)

// tableFault returns what is wrong with a table; its at is -1 if it is not a constituent.
func tableFault(t api.TdTable) fault {
	f := first(
		func() fault { return need(isLevel(t.Mean), api.ErrRange) },
		func() fault { return need(len(t.Consts) <= api.MaxTdConsts, api.ErrLong) },
	)
	if f.e != api.OK {
		f.at = -1
		return f
	}
	return each(len(t.Consts), func(i int) fault { return constFault(t.Consts, i) })
}

// constFault returns what is wrong with a constituent.
func constFault(l []api.TdConst, i int) fault {
	c := l[i]
	return first(
		func() fault { return need(Name(c.Name), api.ErrForm) },
		func() fault {
			twice := slices.ContainsFunc(l[:i], func(o api.TdConst) bool { return o.Name == c.Name })
			return need(!twice, api.ErrTwice)
		},
		func() fault { return need(between(len(c.Heights), 2, api.MaxTdHeights), api.ErrLong) },
		func() fault { return need(numbersRight(c), api.ErrRange) },
	)
}

// numbersRight reports whether the numbers of a constituent are in their ranges.
func numbersRight(c api.TdConst) bool {
	tooGreat := func(h int) bool { return !between(h, -api.MaxTdHeight, api.MaxTdHeight) }
	// Den comes before Offset: with any Den the length of the cycle could overflow.
	return !slices.ContainsFunc(c.Heights, tooGreat) &&
		between(c.Den, 1, api.MaxTdDen) &&
		between(c.Offset, 0, cycle(c)-1) &&
		between(c.Step, 1, api.MaxTdStep) &&
		between(c.Slack, 0, api.MaxTdSlack)
}

// cycle returns of how many parts a cycle of a constituent is.
func cycle(c api.TdConst) int { return c.Den * len(c.Heights) }

// places returns what gives the places in the cycle at a tick and the ones after it, one with each call: the height before it, and how many parts it is behind this.
func places(c api.TdConst, tick int) func() (k, r int) {
	p := (c.Offset + c.Step*tick) % cycle(c)
	return func() (int, int) {
		k, r := p/c.Den, p%c.Den
		p = (p + c.Step) % cycle(c)
		return k, r
	}
}

// partAt returns the part of a constituent at r parts behind its height k.
func partAt(c api.TdConst, k, r int) span {
	next := (k + 1) % len(c.Heights)
	sum := c.Heights[k]*(c.Den-r) + c.Heights[next]*r
	return spanOf(floorDiv(sum, c.Den), ceilDiv(sum, c.Den)).wider(c.Slack)
}

// tides returns the levels of the tide at n ticks from a tick on.
func tides(t api.TdTable, from, n int) []span {
	out := slices.Repeat([]span{spanOf(t.Mean, t.Mean)}, n)
	for _, c := range t.Consts {
		place := places(c, from)
		for i := range out {
			k, r := place()
			out[i] = out[i].plus(partAt(c, k, r))
		}
	}
	return out
}

// ticksOf returns after how many ticks a constituent is at the same place again.
func ticksOf(c api.TdConst) int { return cycle(c) / common(cycle(c), c.Step) }

// common returns the greatest common divisor of two numbers above 0.
func common(a, b int) int {
	for b > 0 {
		a, b = b, a%b
	}
	return a
}
