package closure_test

import (
	"math/rand"
	"reflect"
	"slices"
	"testing"

	"barrage/api"
	"barrage/closure"
)

// The examples of the chapter.
func TestExamples(t *testing.T) {
	x := estuary()
	quiet(t, "example", x, 15)
	planned(t, x, 10, plan(10, 15), api.OK)
	planned(t, x, 14, plan(14, 16), api.OK)
	inner(t, "A", x, 0, plan(10, 15), []api.Span{sp(0, 0), sp(500, 500), sp(528, 529), sp(605, 606), sp(728, 729), sp(500, 500)}, api.OK)
	inner(t, "B", x, 1, plan(10, 15), []api.Span{sp(0, 0), sp(0, 0), sp(28, 29), sp(55, 56), sp(81, 82), sp(0, 0)}, api.OK)
	holds(t, "from 10", x, plan(10, 15), true, true)
	holds(t, "from 11", x, plan(11, 15), false, true)
	last(t, "A", x, 0, 10, api.OK)
	last(t, "B", x, 1, 14, api.OK)
	allowed(t, "R", x, law(), 10, 11, 12, 13, 14)
	allowed(t, "with Early 1", x, rules(1, 1), 11, 12, 13, 14)
	right := decision(plan(10, 15), peaks(14, 729, 14, 82), witnesses(0, 12, 0, 12, 0, 12, 0, 12))
	decides(t, "R", x, law(), right)
	decides(t, "with the Count 2", x, rules(2, 3), decision(unclosed(), peaks(13, 2500, 10, 0), nil))
	x.Limit = 700
	undecided(t, "with the Limit 700", x, law())
	bests(t, "with the Limit 700", x, law(), plan(14, 16), ints(0), api.OK)
	right.Peaks[0].Level = 728
	accept(t, "another peak", estuary(), law(), right, 0, api.ClErrPeak)
}

// input is arguments for all functions.
type input struct {
	task  api.ClTask
	asked asked
}

// copyInput returns arguments that share no memory with x.
func copyInput(x input) input {
	x.task = copyTask(x.task)
	x.asked.decision = copyDecision(x.asked.decision)
	return x
}

// all calls all functions.
func all(x input) []result {
	part, at, e := closure.Check(x.task)
	return append(every(x.task, x.asked), result{"Check", [2]int{part, at}, e})
}

// rightInput returns arguments without errors, most times.
func rightInput(r *rand.Rand) input {
	x := input{task: anyTask(r)}
	first := x.task.Histories[0]
	plans := plansOf(x.task)
	x.asked = asked{
		from: first.From + r.Intn(len(first.Values)), history: r.Intn(len(x.task.Histories)), tick: first.From + r.Intn(len(first.Values)),
		plan: plans[r.Intn(len(plans))], rules: anyRules(r),
	}
	x.asked.decision, _ = closure.Decide(x.task, x.asked.rules)
	return x
}

// odd returns a number that is right, at a limit or beyond it, or far beyond.
func odd(r *rand.Rand) int {
	switch r.Intn(8) {
	case 0:
		return wild()[r.Intn(len(wild()))]
	case 1:
		return ints(-20001, -20000, -1, 0, 1, 2, 8, 9, 30, 31, 60, 61, 20000, 20001, 199999, 200000, 200001, 10000000, 10000001, 1000000000, 1000000001)[r.Intn(21)]
	}
	return r.Intn(60)
}

// numbersOf returns where the numbers of arguments are.
func numbersOf(x *input) []*int {
	a, k := &x.asked, &x.task
	l := []*int{&a.from, &a.history, &a.tick, &a.plan.Close, &a.plan.Open, &a.rules.Count, &a.rules.Early, &a.decision.Plan.Close, &a.decision.Plan.Open, &k.Out, &k.Limit, &k.Delay, &k.Basin.Leak, &k.Basin.Crest, &k.Basin.Over}
	for i := range a.decision.Peaks {
		l = append(l, &a.decision.Peaks[i].At, &a.decision.Peaks[i].Level)
	}
	for i := range a.decision.Later {
		l = append(l, &a.decision.Later[i].History, &a.decision.Later[i].At)
	}
	for i := range k.Histories {
		l = append(l, &k.Histories[i].From)
		for j := range k.Histories[i].Values {
			l = append(l, &k.Histories[i].Values[j])
		}
	}
	for i := range k.River {
		l = append(l, &k.River[i])
	}
	for i := range k.Filled {
		l = append(l, &k.Filled[i])
	}
	for i := range k.Basin.Rows {
		l = append(l, &k.Basin.Rows[i].Level, &k.Basin.Rows[i].Volume)
	}
	return l
}

// oddInput returns arguments of which some are not right.
func oddInput(r *rand.Rand) input {
	x := rightInput(r)
	numbers := numbersOf(&x)
	for range r.Intn(3) {
		*numbers[r.Intn(len(numbers))] = odd(r)
	}
	switch r.Intn(20) {
	case 0:
		x.task.Histories = make([]api.Series, r.Intn(11))
	case 1:
		x.task.Histories[0].Values = nil
	case 2:
		x.task.River = make([]int, r.Intn(65))
	case 3:
		x.task.Filled = make([]int, r.Intn(8))
	case 4:
		x.task.Basin = api.BsBasin{}
	case 5:
		x.asked.decision.Peaks = make([]api.ClPeak, r.Intn(10))
	case 6:
		x.asked.decision.Later = make([]api.ClWitness, r.Intn(70))
	}
	return x
}

// P5.15: any arguments are accepted, and not modified; the same ones have the same results, and these are new memory.
func TestP5_15Any(t *testing.T) {
	r := rand.New(rand.NewSource(515))
	all(input{})
	right, wrong := 0, 0
	for i := range 3000 {
		x := oddInput(r)
		if i%2 == 0 {
			x = rightInput(r)
		}
		before := copyInput(x)
		first := all(x)
		if !reflect.DeepEqual(x, before) {
			t.Fatalf("%+v was modified", before)
		}
		second, kept := all(x), all(copyInput(x))
		for j := range first {
			a, b, c := first[j], second[j], kept[j]
			if !reflect.DeepEqual(a, b) {
				t.Fatalf("%+v: %v, then %v", before, a, b)
			}
			switch {
			case a.e == api.OK:
				right++
			case a.name == "Check" || a.name == "Accept": // they tell where the error is
			case !isZero(a):
				t.Fatalf("%+v: %v", before, a)
			default:
				wrong++
			}
			l := slicesOf(reflect.ValueOf(a.value))
			slices.Sort(l)
			if len(slices.Compact(slices.Clone(l))) != len(l) {
				t.Fatalf("%+v: two lists of %v share memory", before, a)
			}
			overwrite(reflect.ValueOf(a.value))
			if !reflect.DeepEqual(x, before) || !reflect.DeepEqual(b, c) {
				t.Fatalf("%+v: %s is not new memory", before, a.name)
			}
		}
	}
	if right < 10000 || wrong < 5000 {
		t.Errorf("%d results without an error, %d with one: too few", right, wrong)
	}
}

// ocean returns a task at all of its limits.
func ocean() api.ClTask {
	x := api.ClTask{Basin: api.BsBasin{Leak: 10000, Crest: -20000, Over: 10000}, Limit: 19999, Out: 10000000}
	for i := range 12 {
		x.Basin.Rows = append(x.Basin.Rows, api.BsRow{Level: i*3000 - 20000, Volume: i * 30000000})
	}
	for i := range 6 {
		x.Basin.Polders = append(x.Basin.Polders, api.BsPolder{Name: label(i), Sill: -20000, Take: 10000, Room: 1000000000})
		x.Filled = append(x.Filled, i*200000000)
	}
	for i := range 8 {
		l := slices.Repeat(ints(-20000+i), 60)
		l[59] = 20000
		x.Histories = append(x.Histories, series(199941, l...))
	}
	x.River = slices.Repeat(ints(10000000), 60)
	return x
}

// P1, P5.15: a task at all of its limits, where no tick is ruled out but the last one, and one where all are.
func TestP5_15Full(t *testing.T) {
	x := ocean()
	var tops []api.ClPeak
	for h := range x.Histories {
		tops = append(tops, api.ClPeak{At: 199941, Level: h - 20000}) // what comes while the gates are shut runs into the polders
	}
	decides(t, "full", x, rules(8, 60), decision(plan(199999, 200001), tops, witnesses(0, 200000)))
	x.Histories[7].Values[0] = 20000
	undecided(t, "full", x, rules(8, 60))
	bests(t, "full", x, rules(8, 60), plan(199999, 200001), ints(7), api.OK)
	x.Delay = 30
	bests(t, "with a delay", x, rules(8, 60), plan(199969, 200001), ints(7), api.OK)
	for h := range 7 {
		last(t, "with a delay", x, h, 199969, api.OK)
	}
	last(t, "with a delay", x, 7, 0, api.ErrDown)
}
