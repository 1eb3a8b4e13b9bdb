package surge

import (
	"iter"
	"slices"

	"barrage/api"
)

// choice is, for each centre, the member of its current forecast that is chosen (-1: none, and for places without a centre).
type choice [api.MaxSgCentres]int

// nobody returns the choice of no member.
func nobody() choice {
	var c choice
	for i := range c {
		c[i] = -1
	}
	return c
}

// box is a choice, and between which levels the histories are for which the chosen members are right.
type box struct {
	choice
	spans
}

// choices yields, in their order, the choices of just n centres and of a member of each, from those behind the first so many centres.
func (k known) choices(behind, n int) iter.Seq[choice] {
	return func(yield func(choice) bool) {
		if behind == len(k.Centres) {
			if n == 0 {
				yield(nobody())
			}
			return
		}
		for c := range k.choices(behind+1, n) {
			if !yield(c) {
				return
			}
		}
		if n == 0 {
			return
		}
		for m := range k.tubes[behind] {
			for c := range k.choices(behind+1, n-1) {
				c[behind] = m
				if !yield(c) {
					return
				}
			}
		}
	}
}

// chosen does something with the tube of each member that is chosen.
func (k known) chosen(c choice, do func(tube spans)) {
	for i, tubes := range k.tubes {
		if c[i] >= 0 {
			do(tubes[c[i]])
		}
	}
}

// within returns what the base and the tubes of a choice have in common, tightened.
func (k known) within(c choice) spans {
	s := slices.Clone(k.base)
	k.chosen(c, s.meet)
	s.tighten(k.Rate)
	return s
}

// boxes yields the boxes that are not empty, in their order.
func (k known) boxes() iter.Seq[box] {
	return func(yield func(box) bool) {
		for c := range k.choices(0, k.needed()) {
			if s := k.within(c); !s.empty() && !yield(box{c, s}) {
				return
			}
		}
	}
}

// highest returns the highest histories of the boxes, without those that another one makes needless.
func (k known) highest() []api.Series {
	l := slices.Collect(k.boxes())
	var out []api.Series
	for _, b := range l {
		if !b.needless(l) {
			out = append(out, k.history(b.highs()))
		}
	}
	return out
}

// needless reports whether the highest history of a box is nowhere above that of another one; of several that are the same, the first one is not needless.
func (b box) needless(l []box) bool {
	before := true
	for _, o := range l {
		switch {
		case o.choice == b.choice:
			before = false
		case b.below(o.spans) && (before || !o.below(b.spans)):
			return true
		}
	}
	return false
}

// suspect reports whether a centre has a current forecast, and no member of it can be right.
func (k known) suspect(centre int) bool {
	for m := range k.tubes[centre] {
		c := nobody()
		c[centre] = m
		if !k.within(c).empty() {
			return false
		}
	}
	return len(k.tubes[centre]) > 0
}
