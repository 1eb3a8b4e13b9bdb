package closure

import (
	"math"

	"barrage/api"
	"barrage/basin"
)

// level is a level inside: the exact one, rounded down and up.
type level struct {
	api.Span
	volume int // of the basin, above 0, if the exact level is between two whole ones; otherwise 0
}

// whole returns a level in whole mm.
func whole(x int) level { return level{Span: api.Span{Lo: x, Hi: x}} }

// beyond returns what is above each level: there is more water than there can be.
func beyond() level { return whole(math.MaxInt) }

// levelOf returns the level of a volume.
func levelOf(b api.BsBasin, volume int) level {
	l := level{volume: volume}
	l.Span, _ = basin.Level(b, volume)
	if l.Lo == l.Hi {
		return whole(l.Lo)
	}
	return l
}

// tooGreat reports whether there is more water than there can be.
func (l level) tooGreat() bool { return l == beyond() }

// above reports whether a level is above a whole one.
func (l level) above(limit int) bool { return l.Hi > limit }

// higher reports whether a level is above another one of the same basin.
func (l level) higher(than level) bool {
	// Of levels that are the same rounded down a whole one is the lowest, and of the others that with most water is the highest.
	return l.Lo > than.Lo || l.Lo == than.Lo && l.volume > than.volume
}

// volumeAt returns the volume of the basin at a level outside, as the gates shut.
func volumeAt(b api.BsBasin, outer int) int {
	volume, e := basin.Volume(b, outer)
	if e != api.OK {
		return b.Rows[0].Volume // the level is below the first row
	}
	return volume
}
