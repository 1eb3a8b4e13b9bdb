package basin

import (
	"errors"
	"iter"
	"slices"
	"strconv"

	"barrage/api"
)

// water is a basin, the state that it is in, and what flowed in the tick that led to it.
type water struct {
	api.BsBasin
	api.BsState
	flows api.BsFlows
}

// level returns the exact level.
func (w *water) level() exact { return exactOf(w.BsBasin, w.Volume) }

// left returns how much can leak or run off at most: the volume of the first row stays.
func (w *water) left() int { return w.Volume - w.Rows[0].Volume }

// river is what the rivers bring.
func (w *water) river(t api.BsTick) {
	w.flows.River = t.River
	w.Volume += t.River
}

// over is what runs over the barrier.
func (w *water) over(t api.BsTick) {
	w.flows.Over = spill(whole(t.Outer), w.Crest, w.Over)
	w.Volume += w.flows.Over
}

// leak is what leaks through the barrier, in or out.
func (w *water) leak(t api.BsTick) {
	// Leak times what it is higher outside is -Leak times what it is higher inside: so it is rounded down, also if it leaks out.
	w.flows.Leak = max(w.level().times(-w.Leak, t.Outer), -w.left())
	w.Volume += w.flows.Leak
}

// out is what runs off.
func (w *water) out(t api.BsTick) {
	w.flows.Out = min(t.Out, w.left())
	w.Volume -= w.flows.Out
}

// polders is what runs into the polders: each of them has the level that those before it leave.
func (w *water) polders(api.BsTick) {
	for i, p := range w.Polders {
		n := min(spill(w.level(), p.Sill, p.Take), p.Room-w.Filled[i])
		w.flows.Taken[i] = n
		w.Filled[i] += n
		w.Volume -= n
	}
}

// happen does what happens in a tick, one after the other.
func (w *water) happen(t api.BsTick) error {
	parts := [...]func(api.BsTick){w.river, w.over, w.leak, w.out, w.polders}
	for _, part := range parts {
		part(t)
		// Water only comes in the first three parts, so this is not above the limit after a later one.
		if w.Volume > api.MaxVolume {
			return errno(api.ErrLong)
		}
	}
	return nil
}

// step returns the water after a tick, from a state without errors.
func step(b api.BsBasin, s api.BsState, t api.BsTick) (water, error) {
	if !isTick(t) {
		return water{}, errno(api.ErrRange)
	}
	s.Filled = slices.Clone(s.Filled)
	w := water{b, s, api.BsFlows{Taken: make([]int, len(b.Polders))}}
	if err := w.happen(t); err != nil {
		return water{}, err
	}
	return w, nil
}

// ticks yields the water after each of some ticks, one done after the other; the first tick that has an error ends it, with this.
func ticks(b api.BsBasin, s api.BsState, l []api.BsTick) iter.Seq2[water, error] {
	return func(yield func(water, error) bool) {
		for i, t := range l {
			w, err := step(b, s, t)
			if err != nil {
				yield(water{}, ended{i, err})
				return
			}
			if !yield(w, nil) {
				return
			}
			s = w.BsState
		}
	}
}

// run returns the water after each of some ticks, or the first error of the basin, the state or the ticks.
func run(b api.BsBasin, s api.BsState, l []api.BsTick) ([]water, api.Errno) {
	if e := CheckState(b, s); e != api.OK {
		return nil, e
	}
	if len(l) > api.MaxBsTicks {
		return nil, api.ErrLong
	}
	var out []water
	for w, err := range ticks(b, s, l) {
		if err != nil {
			return nil, errnoOf(err)
		}
		out = append(out, w)
	}
	return out, api.OK
}

// keeps reports whether the level stays within a limit in each of some ticks after each of these was changed; it does not with an error.
func keeps(b api.BsBasin, s api.BsState, l []api.BsTick, limit int, change func(t *api.BsTick)) bool {
	l = slices.Clone(l)
	for i := range l {
		change(&l[i])
	}
	for w, err := range ticks(b, s, l) {
		if err != nil || w.level().above(limit) {
			return false
		}
	}
	return true
}

// errno is an error code as an error.
type errno api.Errno

func (e errno) Error() string { return "error " + strconv.Itoa(int(e)) }

// ended is the error that ended a run, and the tick in which it did.
type ended struct {
	tick int
	why  error
}

func (e ended) Error() string { return "tick " + strconv.Itoa(e.tick) + ": " + e.why.Error() }

func (e ended) Unwrap() error { return e.why }

// errnoOf returns the code in an error, which may be wrapped; OK, if there is no error.
func errnoOf(err error) api.Errno {
	var e errno
	if errors.As(err, &e) {
		return api.Errno(e)
	}
	return api.OK
}
