package ship

import (
	"slices"

	"barrage/api"
)

// worth is what the ships that pass are worth, and for how many ticks they are held.
type worth struct{ value, held int }

// worthOf returns what a plan is worth, and for how many ticks it holds ships.
func worthOf(p api.ShPort, plan []api.ShPassage) worth {
	var w worth
	for i, x := range plan {
		if passes(x) {
			w.value += p.Ships[i].Value
			w.held += x.Start - p.Ships[i].Ready
		}
	}
	return w
}

// exceeds reports whether w is worth more than o, or as much with less holding.
func (w worth) exceeds(o worth) bool {
	return w.value > o.value || w.value == o.value && w.held < o.held
}

// best returns the best order, and the plan by it.
func best(p api.ShPort) (order []int, plan []api.ShPassage, e api.Errno) {
	next, stop := orders(len(p.Ships))
	defer stop()
	most := worth{value: -1} // less than any plan is worth
	e = api.ErrDown
	for o, more := next(); more; o, more = next() {
		l, f := planBy(p, o)
		if w := worthOf(p, l); f == api.OK && w.exceeds(most) {
			order, plan, e, most = o, l, api.OK, w
		}
	}
	return order, plan, e
}

// orders returns an iterator of all orders of n ships, the lesser of two first: next returns the next one, as long as there is one more and stop was not called.
func orders(n int) (next func() (order []int, more bool), stop func()) {
	l, more := make([]int, n), true
	for i := range l {
		l[i] = i
	}
	next = func() ([]int, bool) {
		if !more {
			return nil, false
		}
		order := slices.Clone(l)
		more = advance(l)
		return order, true
	}
	return next, func() { more = false }
}

// advance turns an order into the next greater one; it reports whether there is one.
func advance(l []int) bool {
	i := len(l) - 2
	for i >= 0 && l[i] > l[i+1] {
		i--
	}
	if i < 0 {
		return false
	}
	// What follows i is descending: the last number in it that is greater is the least one.
	j := len(l) - 1
	for l[j] < l[i] {
		j--
	}
	l[i], l[j] = l[j], l[i]
	slices.Reverse(l[i+1:])
	return true
}
