package surge_test

import (
	"math/rand"
	"slices"
	"testing"

	"barrage/api"
	"barrage/surge"
	"barrage/tide"
)

// told is what is known of a task at a tick, by the definitions alone: nothing in it comes from package surge.
type told struct {
	task    api.SgTask
	current []int
	base    []api.Span
	tubes   [][][]api.Span // of each centre, of each member of its current forecast, at each tick
	needed  int
}

// tell returns what is known of a task at a tick.
func tell(t *testing.T, x api.SgTask, now int) told {
	t.Helper()
	k := told{task: x, needed: x.Quorum}
	for tick := x.From; tick < x.From+x.Ticks; tick++ {
		k.base = append(k.base, baseAt(t, x, tick, now))
	}
	some := 0
	for c := range x.Centres {
		k.current = append(k.current, -1)
		k.tubes = append(k.tubes, nil)
		for i, f := range x.Forecasts {
			if f.Centre == c && now >= f.Issued+x.Centres[c].Late && (k.current[c] == -1 || x.Forecasts[k.current[c]].Issued < f.Issued) {
				k.current[c] = i
			}
		}
		if k.current[c] == -1 {
			continue
		}
		some++
		for m := range x.Forecasts[k.current[c]].Members {
			k.tubes[c] = append(k.tubes[c], tubeOf(t, x, k.current[c], m))
		}
	}
	k.needed = min(k.needed, some)
	return k
}

// baseAt returns the base at a tick, without levels if its Lo is above its Hi.
func baseAt(t *testing.T, x api.SgTask, tick, now int) api.Span {
	t.Helper()
	s, e := tide.Level(x.Table, tick)
	if e != api.OK {
		t.Fatal(e)
	}
	s = sp(max(s.Lo+x.Least, -20000), min(s.Hi+x.Most, 20000))
	if len(x.Gauges) == 0 {
		return s
	}
	switch sound, e := tide.Sound(x.Gauges, x.Wrong, tick, now); e {
	case api.OK:
		return sp(max(s.Lo, sound.Lo), min(s.Hi, sound.Hi))
	case api.ErrDown:
	default:
		t.Fatal(e)
	}
	return s
}

// tubeOf returns the tube of a member.
func tubeOf(t *testing.T, x api.SgTask, forecast, member int) []api.Span {
	t.Helper()
	f := x.Forecasts[forecast]
	c := x.Centres[f.Centre]
	var out []api.Span
	for tick := x.From; tick < x.From+x.Ticks; tick++ {
		s, e := tide.Level(x.Table, tick)
		if e != api.OK {
			t.Fatal(e)
		}
		if tick < f.From || tick >= f.From+len(f.Members[member]) {
			out = append(out, sp(-20000, 20000))
			continue
		}
		by := c.Base
		for hour := f.Issued; hour < tick; hour += 6 {
			by += c.Growth
		}
		v := f.Members[member][tick-f.From]
		out = append(out, sp(s.Lo+v-by, s.Hi+v+by))
	}
	return out
}

// inside reports whether each value is in its span.
func inside(values []int, l []api.Span) bool {
	for i, x := range values {
		if x < l[i].Lo || x > l[i].Hi {
			return false
		}
	}
	return true
}

// right reports whether a centre is right for a history.
func (k told) right(c int, values []int) bool {
	return slices.ContainsFunc(k.tubes[c], func(tube []api.Span) bool { return inside(values, tube) })
}

// possible reports whether a history is possible.
func (k told) possible(values []int) bool {
	for i, x := range values[1:] {
		if max(x-values[i], values[i]-x) > k.task.Rate {
			return false
		}
	}
	many := 0
	for c := range k.tubes {
		if k.right(c, values) {
			many++
		}
	}
	return inside(values, k.base) && many >= k.needed
}

// steady returns all histories in the base that change by at most Rate from tick to tick.
func (k told) steady() [][]int {
	var out [][]int
	var walk func(values []int)
	walk = func(values []int) {
		i := len(values)
		if i == len(k.base) {
			out = append(out, slices.Clone(values))
			return
		}
		lo, hi := k.base[i].Lo, k.base[i].Hi
		if i > 0 {
			lo, hi = max(lo, values[i-1]-k.task.Rate), min(hi, values[i-1]+k.task.Rate)
		}
		for x := lo; x <= hi; x++ {
			walk(append(slices.Clone(values), x))
		}
	}
	walk(nil)
	return out
}

// all returns all histories that are possible.
func (k told) all() [][]int {
	return slices.DeleteFunc(k.steady(), func(values []int) bool { return !k.possible(values) })
}

// bounds returns the least and the greatest value at each tick.
func bounds(l [][]int) (low, high []int) {
	low, high = slices.Clone(l[0]), slices.Clone(l[0])
	for _, values := range l {
		for i, x := range values {
			low[i], high[i] = min(low[i], x), max(high[i], x)
		}
	}
	return low, high
}

// under reports whether no value of a is above that of b.
func under(a, b []int) bool {
	for i, x := range a {
		if x > b[i] {
			return false
		}
	}
	return true
}

// boxes returns the boxes, found by going through all histories.
func (k told) boxes() []api.SgBox {
	steady := k.steady()
	var out []api.SgBox
	var choose func(members []int, many int)
	choose = func(members []int, many int) {
		c := len(members)
		if c < len(k.tubes) {
			choose(append(slices.Clone(members), -1), many)
			for m := range k.tubes[c] {
				choose(append(slices.Clone(members), m), many+1)
			}
			return
		}
		var l [][]int
		for _, values := range steady {
			in := true
			for c, m := range members {
				in = in && (m == -1 || inside(values, k.tubes[c][m]))
			}
			if in {
				l = append(l, values)
			}
		}
		if many == k.needed && len(l) > 0 {
			low, high := bounds(l)
			out = append(out, api.SgBox{Members: members, Low: k.series(low), High: k.series(high)})
		}
	}
	choose(nil, 0)
	return out
}

// series returns a history of the task.
func (k told) series(values []int) api.Series {
	return api.Series{From: k.task.From, Values: values}
}

// P2.2 to P2.5, P2.7, P2.9, P2.10: all results of small tasks are those that going through all histories gives.
func TestP2All(t *testing.T) {
	r := rand.New(rand.NewSource(2))
	none, many, gauges := 0, 0, 0
	for range 700 {
		x := anyTask(r)
		need(t, x)
		now := 10 + r.Intn(13)
		k := tell(t, x, now)
		l := k.all()
		checkKnown(t, x, now, k)
		checkHighest(t, x, now, k, l)
		if len(l) == 0 {
			none++
		}
		if boxes, _ := surge.Boxes(x, now); len(boxes) > 1 {
			many++
		}
		free := x
		free.Gauges, free.Wrong = nil, 0
		if !same(tell(t, free, now).base, k.base) {
			gauges++
		}
	}
	if none < 50 || many < 50 || gauges < 50 || none > 400 {
		t.Errorf("%d without histories, %d with many boxes, %d by gauges: too much alike", none, many, gauges)
	}
}

// checkKnown compares Current, Tube, Base, Boxes and Suspects with what is told.
func checkKnown(t *testing.T, x api.SgTask, now int, k told) {
	t.Helper()
	if l, e := surge.Current(x, now); !same(l, k.current) || e != api.OK {
		t.Fatalf("%+v at %d: Current %v, %d; not %v", x, now, l, e, k.current)
	}
	var suspects []int
	steady := k.steady()
	for c, tubes := range k.tubes {
		for m, want := range tubes {
			if l, e := surge.Tube(x, k.current[c], m); !same(l, want) || e != api.OK {
				t.Fatalf("%+v: Tube %v, %d; not %v", x, l, e, want)
			}
		}
		if len(tubes) > 0 && !slices.ContainsFunc(steady, func(values []int) bool { return k.right(c, values) }) {
			suspects = append(suspects, c)
		}
	}
	if l, e := surge.Suspects(x, now); !same(l, suspects) || e != api.OK {
		t.Fatalf("%+v at %d: Suspects %v, %d; not %v", x, now, l, e, suspects)
	}
	want, down := k.base, api.OK
	if slices.ContainsFunc(k.base, func(s api.Span) bool { return s.Lo > s.Hi }) {
		want, down = nil, api.ErrDown
	}
	if l, e := surge.Base(x, now); !same(l, want) || e != down {
		t.Fatalf("%+v at %d: Base %v, %d; not %v", x, now, l, e, want)
	}
	if l, e := surge.Boxes(x, now); !same(l, k.boxes()) || e != api.OK {
		t.Fatalf("%+v at %d: Boxes %v, %d; not %v", x, now, l, e, k.boxes())
	}
}

// checkHighest compares Possible, Envelope and Peak with all histories that are possible.
func checkHighest(t *testing.T, x api.SgTask, now int, k told, all [][]int) {
	t.Helper()
	var want []api.Series
	for _, b := range k.boxes() {
		high := b.High.Values
		beaten := slices.ContainsFunc(all, func(o []int) bool { return under(high, o) && !under(o, high) })
		if !beaten && !slices.ContainsFunc(want, func(o api.Series) bool { return slices.Equal(o.Values, high) }) {
			want = append(want, b.High)
		}
	}
	if l, e := surge.Possible(x, now); !same(l, want) || e != api.OK {
		t.Fatalf("%+v at %d: Possible %v, %d; not %v", x, now, l, e, want)
	}
	var low, high api.Series
	var peak api.Span
	down := api.ErrDown
	if len(all) > 0 {
		down = api.OK
		a, b := bounds(all)
		low, high = k.series(a), k.series(b)
		peak = sp(slices.Max(all[0]), slices.Max(all[0]))
		for _, values := range all {
			peak = sp(min(peak.Lo, slices.Max(values)), max(peak.Hi, slices.Max(values)))
		}
	}
	if a, b, e := surge.Envelope(x, now); !same(a, low) || !same(b, high) || e != down {
		t.Fatalf("%+v at %d: Envelope %v, %v, %d; not %v, %v", x, now, a, b, e, low, high)
	}
	if s, e := surge.Peak(x, now); s != peak || e != down {
		t.Fatalf("%+v at %d: Peak %v, %d; not %v", x, now, s, e, peak)
	}
}

// P2.6, P2.9, P2.10, P2.14: which histories are possible, and which centres are right for them.
func TestP2_6All(t *testing.T) {
	r := rand.New(rand.NewSource(6))
	yes, no := 0, 0
	for range 500 {
		x := anyTask(r)
		now := 10 + r.Intn(13)
		k := tell(t, x, now)
		suspects, _ := surge.Suspects(x, now)
		highest, _ := surge.Possible(x, now)
		for _, values := range someOf(r, k) {
			var right []bool
			for c := range k.tubes {
				right = append(right, k.right(c, values))
			}
			if l, e := surge.Right(x, now, k.series(values)); !slices.Equal(l, right) || e != api.OK {
				t.Fatalf("%+v at %d: Right of %v: %v, %d; not %v", x, now, values, l, e, right)
			}
			is, e := surge.Is(x, now, k.series(values))
			if is != k.possible(values) || e != api.OK {
				t.Fatalf("%+v at %d: Is of %v: %v, %d", x, now, values, is, e)
			}
			if !is {
				no++
				continue
			}
			yes++
			if !slices.ContainsFunc(highest, func(s api.Series) bool { return under(values, s.Values) }) {
				t.Fatalf("%+v at %d: %v is below none of %v", x, now, values, highest)
			}
			if slices.ContainsFunc(suspects, func(c int) bool { return right[c] }) {
				t.Fatalf("%+v at %d: one of %v is right for %v", x, now, suspects, values)
			}
		}
	}
	if yes < 1000 || no < 1000 {
		t.Errorf("%d are possible, %d are not: too much alike", yes, no)
	}
}

// someOf returns some histories of a task, about as many that are possible as others; all are levels.
func someOf(r *rand.Rand, k told) [][]int {
	l := k.all()
	r.Shuffle(len(l), func(i, j int) { l[i], l[j] = l[j], l[i] })
	l = l[:min(10, len(l))]
	for range 10 {
		var values []int
		for _, s := range k.base {
			values = append(values, min(max(from(r, min(s.Lo, s.Hi)-1, max(s.Lo, s.Hi)+1), -20000), 20000))
		}
		l = append(l, values)
	}
	return l
}

// P2.7: Ruled, by all that is told at two ticks.
func TestP2_7All(t *testing.T) {
	r := rand.New(rand.NewSource(7))
	some := 0
	for range 1500 {
		x := anyTask(r)
		then, now := 10+r.Intn(13), 10+r.Intn(13)
		k := tell(t, x, now)
		highest, e := surge.Possible(x, then)
		if e != api.OK {
			t.Fatalf("%+v: %d", x, e)
		}
		var want []int
		for i, s := range highest {
			if !k.possible(s.Values) {
				want = append(want, i)
			}
		}
		if l, e := surge.Ruled(x, then, now); !same(l, want) || e != api.OK {
			t.Fatalf("%+v at %d and %d: %v, %d; not %v", x, then, now, l, e, want)
		}
		some += len(want)
	}
	if some < 50 {
		t.Errorf("%d are ruled out: too much alike", some)
	}
}
