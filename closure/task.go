package closure

import (
	"iter"
	"slices"

	"barrage/api"
	"barrage/basin"
)

// facts is what is read once of a task: ticks that its histories and its Delay tell.
type facts struct {
	from, end int   // the first tick of the task, and the one behind the last
	last      int   // the last tick at which closing can begin; it is before the first one, if there is none
	quiet     int   // the quiet tick
	highs     []int // of each history the first tick at which it is high; -1, if there is none
}

// start is where a run of the basin begins: a history, and the tick at which the gates shut.
type start struct{ history, shut int }

// task is a task without errors, what is read of it once, and the runs of the basin that were done.
type task struct {
	api.ClTask
	facts
	runs map[start][]level
}

// read returns a task, or its error.
func read(t api.ClTask) (task, api.Errno) {
	if _, _, e := Check(t); e != api.OK {
		return task{}, e
	}
	return taskOf(t), api.OK
}

// taskOf returns a task that has no error.
func taskOf(t api.ClTask) task { return task{t, factsOf(t), map[start][]level{}} }

// factsOf returns what is read once of a task.
func factsOf(t api.ClTask) facts {
	first := t.Histories[0]
	f := facts{from: first.From, end: first.From + len(first.Values), quiet: first.From}
	f.last = f.end - 1 - t.Delay
	high := func(x int) bool { return x > t.Limit }
	for _, h := range t.Histories {
		f.highs = append(f.highs, firstTick(h.From, h.Values, high))
		for i, x := range h.Values {
			if high(x) {
				f.quiet = max(f.quiet, h.From+i+1)
			}
		}
	}
	return f
}

// firstTick returns the first tick at which something is so, of things at the ticks from one on; -1, if there is none.
func firstTick[T any](from int, l []T, so func(T) bool) int {
	i := slices.IndexFunc(l, so)
	if i < 0 {
		return -1
	}
	return from + i
}

// alone returns the task that has one of the histories alone.
func (k task) alone(history int) task {
	t := k.ClTask
	t.Histories = t.Histories[history : history+1]
	return taskOf(t)
}

// isHistory reports whether there is a history with an index.
func (k task) isHistory(i int) bool { return between(i, 0, len(k.Histories)-1) }

// canBegin reports whether closing can begin at a tick.
func (k task) canBegin(tick int) bool { return between(tick, k.from, k.last) }

// starts yields the ticks at which closing can begin, the last one first.
func (k task) starts() iter.Seq[int] {
	return func(yield func(int) bool) {
		for tick := k.last; tick >= k.from; tick-- {
			if !yield(tick) {
				return
			}
		}
	}
}

// unclosed returns the plan not to close the gates.
func unclosed() api.ClPlan { return api.ClPlan{Close: -1, Open: -1} }

// plan returns the plan from a tick.
func (k task) plan(from int) api.ClPlan {
	return api.ClPlan{Close: from, Open: max(k.quiet, from+k.Delay+1)}
}

// isPlan reports whether p is a plan of the task.
func (k task) isPlan(p api.ClPlan) bool {
	return p == unclosed() || k.canBegin(p.Close) && between(p.Open, p.Close+k.Delay+1, k.end)
}

// inner returns the level inside at each tick, in a history with a plan.
func (k task) inner(history int, p api.ClPlan) []level {
	var l []level
	for _, x := range k.Histories[history].Values {
		l = append(l, whole(x))
	}
	if p != unclosed() {
		shut := p.Close + k.Delay
		copy(l[shut+1-k.from:p.Open-k.from], k.run(start{history, shut}))
	}
	return l
}

// run returns the level inside at each tick after that at which the gates shut, if they stay shut.
func (k task) run(s start) []level {
	l, done := k.runs[s]
	if !done {
		l = k.fill(s)
		k.runs[s] = l
	}
	return l
}

// fill does a run of the basin.
func (k task) fill(s start) []level {
	outer := k.Histories[s.history].Values[s.shut-k.from:]
	river := k.River[s.shut-k.from:]
	state := api.BsState{Volume: volumeAt(k.Basin, outer[0]), Filled: k.Filled}
	var l []level
	for i, x := range outer[:len(outer)-1] {
		after, _, e := basin.Step(k.Basin, state, api.BsTick{Outer: x, River: river[i], Out: k.Out})
		if e != api.OK {
			// Nothing is known of the water from here on, but that there is too much of it.
			return append(l, slices.Repeat([]level{beyond()}, len(outer)-1-i)...)
		}
		l = append(l, levelOf(k.Basin, after.Volume))
		state = after
	}
	return l
}

// breach returns the first tick at which the level inside is above the limit, in a history with a plan; -1, if there is none.
func (k task) breach(history int, p api.ClPlan) int {
	return firstTick(k.from, k.inner(history, p), func(l level) bool { return l.above(k.Limit) })
}

// holds reports whether a plan holds for a history.
func (k task) holds(history int, p api.ClPlan) bool { return k.breach(history, p) < 0 }

// fails returns the histories for which a plan does not hold.
func (k task) fails(p api.ClPlan) []int {
	var l []int
	for i := range k.Histories {
		if !k.holds(i, p) {
			l = append(l, i)
		}
	}
	return l
}

// peak returns the peak of a history, with a plan.
func (k task) peak(history int, p api.ClPlan) api.ClPeak {
	l := k.inner(history, p)
	top := 0
	for i := range l {
		if l[i].higher(l[top]) {
			top = i
		}
	}
	return api.ClPeak{At: k.from + top, Level: l[top].Hi}
}

// peaks returns the peaks of all histories, with a plan.
func (k task) peaks(p api.ClPlan) []api.ClPeak {
	var l []api.ClPeak
	for i := range k.Histories {
		l = append(l, k.peak(i, p))
	}
	return l
}
