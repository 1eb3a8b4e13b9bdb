package basin

import "barrage/api"

// height is how high water is, whole or not, as it is compared with levels.
type height interface {
	// above reports whether it is above a level.
	above(level int) bool
	// times returns a rate times by how much it is above a level, rounded down.
	times(rate, level int) int
}

// spill returns what runs over an edge from water of a height.
func spill(h height, edge, rate int) int {
	if !h.above(edge) {
		return 0
	}
	return h.times(rate, edge)
}

// whole is a level in whole mm.
type whole int

func (x whole) above(level int) bool { return int(x) > level }

func (x whole) times(rate, level int) int { return rate * (int(x) - level) }

// exact is an exact level: a numerator, and a denominator above 0.
type exact struct{ num, den int }

func (x exact) above(level int) bool { return x.num > level*x.den }

func (x exact) times(rate, level int) int {
	// A rate is at most 10^4, and both products are below 10^14: there is no overflow.
	return exact{rate * (x.num - level*x.den), x.den}.down()
}

// down returns the level, rounded down.
func (x exact) down() int {
	q := x.num / x.den
	if x.num%x.den < 0 {
		q--
	}
	return q
}

// up returns the level, rounded up.
func (x exact) up() int { return -exact{-x.num, x.den}.down() }

// span returns the whole levels next to the level.
func (x exact) span() api.Span { return api.Span{Lo: x.down(), Hi: x.up()} }

// exactOf returns the exact level of a volume.
func exactOf(b api.BsBasin, volume int) exact {
	lo, hi := around(b.Rows, func(r api.BsRow) bool { return r.Volume > volume })
	den := hi.Volume - lo.Volume
	return exact{lo.Level*den + (volume-lo.Volume)*(hi.Level-lo.Level), den}
}

// volumeOf returns the greatest volume whose exact level is at most a level.
func volumeOf(b api.BsBasin, level int) int {
	lo, hi := around(b.Rows, func(r api.BsRow) bool { return r.Level > level })
	return lo.Volume + (level-lo.Level)*(hi.Volume-lo.Volume)/(hi.Level-lo.Level)
}

// around returns the last row that is not behind something and the next one, or the last two rows, if there is no next one.
func around(l []api.BsRow, behind func(r api.BsRow) bool) (lo, hi api.BsRow) {
	i := 1
	for i < len(l)-1 && !behind(l[i]) {
		i++
	}
	return l[i-1], l[i]
}
