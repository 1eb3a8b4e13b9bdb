package surge_test

import (
	"math/rand"
	"reflect"
	"slices"
	"testing"

	"barrage/api"
	"barrage/surge"
)

// The examples of the chapter.
func TestExamples(t *testing.T) {
	x := coast()
	need(t, x)
	check := func(what string, value any, e api.Errno, want any) {
		t.Helper()
		if !same(value, want) || e != api.OK {
			t.Errorf("%s: %v, %d; not %v", what, value, e, want)
		}
	}
	for now, want := range map[int][]int{89: {-1, -1}, 90: {0, -1}, 95: {0, 1}, 96: {2, 1}} {
		l, e := surge.Current(x, now)
		check("Current", l, e, want)
	}
	for tick, want := range map[int]int{88: 100, 89: 150, 100: 200, 101: 250} {
		n, e := surge.Error(x, 0, tick)
		check("Error", n, e, want)
	}
	tube, e := surge.Tube(x, 0, 0)
	check("Tube of 0", tube, e, []api.Span{sp(800, 1200), sp(1250, 1750), sp(1750, 2250)})
	tube, e = surge.Tube(x, 1, 0)
	check("Tube of 1", tube, e, []api.Span{sp(-20000, 20000), sp(2300, 2700), sp(2400, 2800)})
	base, e := surge.Base(x, 90)
	check("Base", base, e, slices.Repeat([]api.Span{sp(-500, 4000)}, 3))
	l, e := surge.Boxes(x, 89)
	check("Boxes at 89", l, e, []api.SgBox{box(ints(-1, -1), ints(-500, -500, -500), ints(4000, 4000, 4000))})
	l, e = surge.Boxes(x, 95)
	check("Boxes at 95", l, e, []api.SgBox{
		box(ints(-1, 0), ints(1500, 2300, 2400), ints(3500, 2700, 2800)),
		box(ints(0, -1), ints(800, 1250, 1750), ints(1200, 1750, 2250)),
		box(ints(1, -1), ints(300, 450, 650), ints(700, 950, 1150)),
	})
	possible, e := surge.Possible(x, 95)
	check("Possible at 95", possible, e, []api.Series{at(3500, 2700, 2800)})
	low, high, e := surge.Envelope(x, 95)
	check("Envelope", []api.Series{low, high}, e, []api.Series{at(300, 450, 650), at(3500, 2700, 2800)})
	peak, e := surge.Peak(x, 95)
	check("Peak", peak, e, sp(650, 3500))
	possible, e = surge.Possible(x, 90)
	check("Possible at 90", possible, e, []api.Series{at(1200, 1750, 2250)})
	right, e := surge.Right(x, 95, at(1000, 1500, 2000))
	check("Right", right, e, []bool{true, false})
	is, e := surge.Is(x, 95, at(1000, 1500, 2000))
	check("Is at 95", is, e, true)
	is, e = surge.Is(x, 96, at(1000, 1500, 2000))
	check("Is at 96", is, e, false)
	ruled, e := surge.Ruled(x, 90, 95)
	check("Ruled of 90 and 95", ruled, e, ints())
	ruled, e = surge.Ruled(x, 90, 96)
	check("Ruled of 90 and 96", ruled, e, ints(0))
	suspects, e := surge.Suspects(x, 95)
	check("Suspects", suspects, e, ints())
	two, less := coast(), coast()
	two.Quorum, less.Most = 2, 2000
	l, e = surge.Boxes(two, 96)
	check("Boxes at 96, two of two", l, e, []api.SgBox{})
	if low, high, e := surge.Envelope(two, 96); e != api.ErrDown || !same(low, api.Series{}) || !same(high, api.Series{}) {
		t.Errorf("Envelope, two of two: %v, %v, %d", low, high, e)
	}
	suspects, e = surge.Suspects(less, 95)
	check("Suspects, up to 2000", suspects, e, ints(1))
}

// The second example of DOC.md: met with the members 1000, 1500, 2000 or 500, 700, 900, ocean with 2500, 2600, and one of both right.
func TestExampleOfDoc(t *testing.T) {
	x := coast()
	x.Forecasts = x.Forecasts[:2]
	if l, e := surge.Possible(x, 100); !same(l, []api.Series{at(3500, 2700, 2800)}) || e != api.OK {
		t.Errorf("%v, %d", l, e)
	}
}

// input is arguments for all functions.
type input struct {
	task                        api.SgTask
	now, then, forecast, member int
	history                     api.Series
}

// copyInput returns arguments that share no memory with x.
func copyInput(x input) input {
	x.task = copyTask(x.task)
	x.history.Values = slices.Clone(x.history.Values)
	return x
}

// every calls all functions.
func every(x input) []result {
	part, at, e := surge.Check(x.task)
	out := all(x.task, x.now, x.then, x.forecast, x.member, x.history)
	return append(out, result{"Check", [2]int{part, at}, e})
}

// odd returns a number that is right, at a limit or beyond it, or far beyond.
func odd(r *rand.Rand) int {
	switch r.Intn(8) {
	case 0:
		return wild()[r.Intn(len(wild()))]
	case 1:
		return []int{-20001, -20000, -10000, -1, 0, 1, 2, 4, 8, 12, 96, 97, 200, 1000, 5000, 10000, 20000, 20001, 200000, 200001}[r.Intn(20)]
	}
	return r.Intn(25)
}

// rightInput returns arguments of which most are right.
func rightInput(r *rand.Rand) input {
	x := input{task: anyTask(r), now: 10 + r.Intn(13), then: 10 + r.Intn(13), forecast: r.Intn(3), member: r.Intn(2)}
	x.history.From = x.task.From
	for range x.task.Ticks {
		x.history.Values = append(x.history.Values, x.task.Table.Mean+from(r, -1, 1))
	}
	return x
}

// oddInput returns arguments of which many are not right.
func oddInput(r *rand.Rand) input {
	x := rightInput(r)
	t := &x.task
	numbers := []*int{
		&x.now, &x.then, &x.forecast, &x.member, &x.history.From, &x.history.Values[0],
		&t.Table.Mean, &t.Wrong, &t.From, &t.Ticks, &t.Least, &t.Most, &t.Rate, &t.Quorum,
	}
	for i := range t.Gauges {
		numbers = append(numbers, &t.Gauges[i].Error, &t.Gauges[i].Rate, &t.Gauges[i].Datums[0].From)
	}
	for i := range t.Centres {
		numbers = append(numbers, &t.Centres[i].Late, &t.Centres[i].Base, &t.Centres[i].Growth)
	}
	for i := range t.Forecasts {
		f := &t.Forecasts[i]
		numbers = append(numbers, &f.Centre, &f.Issued, &f.From, &f.Members[0][0])
	}
	for range 1 + r.Intn(3) {
		*numbers[r.Intn(len(numbers))] = odd(r)
	}
	if r.Intn(5) == 0 && len(t.Forecasts) > 0 {
		f := &t.Forecasts[r.Intn(len(t.Forecasts))]
		f.Members = append(f.Members, make([]int, r.Intn(300)), nil)[:r.Intn(len(f.Members)+3)]
	}
	if r.Intn(5) == 0 {
		x.history.Values = make([]int, r.Intn(100))
	}
	return x
}

// overwrite changes all memory that a value has.
func overwrite(v reflect.Value) {
	switch v.Kind() {
	case reflect.Slice:
		for i := range v.Len() {
			overwrite(v.Index(i))
		}
	case reflect.Struct:
		for i := range v.NumField() {
			overwrite(v.Field(i))
		}
	case reflect.Int:
		if v.CanSet() {
			v.SetInt(-7)
		}
	case reflect.Bool:
		if v.CanSet() {
			v.SetBool(!v.Bool())
		}
	}
}

// slicesOf returns the addresses of the first elements of all slices in a value.
func slicesOf(v reflect.Value) []uintptr {
	var out []uintptr
	switch v.Kind() {
	case reflect.Slice:
		if v.Len() > 0 {
			out = append(out, v.Pointer())
		}
		for i := range v.Len() {
			// The first element of a list begins where the list does: only lists in structs are looked at.
			if v.Index(i).Kind() == reflect.Struct {
				out = append(out, slicesOf(v.Index(i))...)
			}
		}
	case reflect.Struct:
		for i := range v.NumField() {
			if v.Field(i).Kind() == reflect.Slice || v.Field(i).Kind() == reflect.Struct {
				out = append(out, slicesOf(v.Field(i))...)
			}
		}
	}
	return out
}

// P2.15: any arguments are accepted, and not modified; the same ones have the same results, and these are new memory.
func TestP2_15Any(t *testing.T) {
	r := rand.New(rand.NewSource(15))
	every(input{})
	for i := range 4000 {
		x := oddInput(r)
		if i%2 == 0 {
			x = rightInput(r)
		}
		before := copyInput(x)
		first := every(x)
		if !reflect.DeepEqual(x, before) {
			t.Fatalf("%+v was modified", before)
		}
		second, kept := every(x), every(copyInput(x))
		for j := range first {
			a, b, c := first[j], second[j], kept[j]
			if !reflect.DeepEqual(a, b) {
				t.Fatalf("%+v: %v, then %v", before, a, b)
			}
			l := slicesOf(reflect.ValueOf(a.value))
			slices.Sort(l)
			if len(slices.Compact(slices.Clone(l))) != len(l) {
				t.Fatalf("%+v: two lists of %v share memory", before, a)
			}
			overwrite(reflect.ValueOf(a.value))
			if !reflect.DeepEqual(x, before) || !reflect.DeepEqual(b, c) {
				t.Fatalf("%+v: %s is not new memory", before, a.name)
			}
		}
	}
}

// P1, P2.15: a task at all of its limits.
func TestP2_15Full(t *testing.T) {
	x := api.SgTask{From: 200000 - 95, Ticks: 96, Least: -10000, Most: 10000, Rate: 5000, Quorum: 2, Wrong: 7}
	for i := range 12 {
		up := 10000 - i%2*20000 // each two of them cancel each other
		x.Table.Consts = append(x.Table.Consts, api.TdConst{Name: label(i), Heights: slices.Repeat(ints(up, -up), 24), Offset: 7, Step: 99999, Den: 1000, Slack: 1000})
	}
	for i := range 8 {
		g := api.TdGauge{Name: label(i), Error: 5000, Rate: 5000, Datums: []api.TdDatum{{Shift: sp(-5000, 5000)}}}
		for tick := range 60 {
			g.Readings = append(g.Readings, api.TdReading{Tick: 199900 + tick, Value: 100 * tick})
		}
		x.Gauges = append(x.Gauges, g)
	}
	for i := range 4 {
		x.Centres = append(x.Centres, api.SgCentre{Name: label(i), Base: 5000, Growth: 1000})
		for j := range 3 {
			f := api.SgForecast{Centre: i, Issued: 199900 + j, From: 199900}
			for range 4 {
				f.Members = append(f.Members, slices.Repeat(ints(10000, -10000), 100))
			}
			x.Forecasts = append(x.Forecasts, f)
		}
	}
	need(t, x)
	s := api.Series{From: x.From, Values: make([]int, 96)}
	for _, y := range all(x, 200000, 199900, 11, 3, s) {
		if y.e != api.OK {
			t.Errorf("%s: %v, %d", y.name, y.value, y.e)
		}
	}
	if l, e := surge.Boxes(x, 200000); len(l) != 96 || e != api.OK {
		t.Errorf("%d boxes, %d", len(l), e)
	}
}
