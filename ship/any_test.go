package ship_test

import (
	"math/rand"
	"reflect"
	"slices"
	"testing"

	"barrage/api"
	"barrage/ship"
)

// The examples of the chapter.
func TestExamples(t *testing.T) {
	p := estuary()
	for start, why := range map[int]api.Errno{10: api.OK, 14: api.OK, 15: api.ShErrShut, 9: api.ShErrEarly, 56: api.OK, 57: api.ShErrDeep} {
		fits(t, "bulk", p, 0, 0, start, why, api.OK)
	}
	first, second := moves(0, 10, -1, -1, -1, 1, -1, -1, 0), moves(0, 40, 0, 0, 12, -1, -1, -1, 0)
	planned(t, "first", p, ints(0, 1, 2), first, api.OK)
	worths(t, "first", p, first, 50, 0)
	planned(t, "second", p, ints(1, 0, 2), second, api.OK)
	worths(t, "second", p, second, 80, 30)
	bests(t, "best", p, ints(1, 0, 2), second, api.OK)
	judged(t, "wrong", p, moves(0, 10, -1, 0, 12, -1, 0, 15, -1), faults(1, api.ShErrMeet, 2, api.ShErrShut, 2, api.ShErrMeet)...)
	in(t, "second", p, second, 0, 13, 1)
	free(t, "second", p, second, 0, 5, 5)
	free(t, "second", p, second, 0, 12, 16)
	free(t, "second", p, second, 0, 40, 46)
	turned(t, "to the first", p, second, first, 1)
	p.Openings[0].Shut = shut(25, 40)
	replanned(t, "shut later", p, first, 11, moves(0, 10, -1, 0, 17, 1, -1, -1, 0), api.OK)
}

// input is arguments for all functions.
type input struct {
	port  api.ShPort
	asked asked
}

// copyInput returns arguments that share no memory with x.
func copyInput(x input) input {
	x.port = copyPort(x.port)
	a := &x.asked
	a.order, a.plan, a.after = slices.Clone(a.order), slices.Clone(a.plan), slices.Clone(a.after)
	return x
}

// all calls all functions.
func all(x input) []result {
	part, at, e := ship.Check(x.port)
	return append(every(x.port, x.asked), result{"Check", [2]int{part, at}, e})
}

// rightInput returns arguments without errors, most times.
func rightInput(r *rand.Rand) input {
	p := portOf(r, r.Intn(3))
	p.Ships = p.Ships[:min(len(p.Ships), 3+r.Intn(3))]
	return input{port: p, asked: asked{
		ship: r.Intn(len(p.Ships) + 1), opening: r.Intn(len(p.Openings)), tick: min(p.Levels.From+r.Intn(30), api.MaxTick),
		order: r.Perm(len(p.Ships)), plan: anyPlan(r, p), after: anyPlan(r, p),
	}}
}

// odd returns a number that is right, at a limit or beyond it, or far beyond.
func odd(r *rand.Rand) int {
	switch r.Intn(8) {
	case 0:
		return wild()[r.Intn(len(wild()))]
	case 1:
		return ints(-20001, -20000, -2, -1, 0, 1, 2, 3, 4, 5, 50, 51, 500, 501, 1000, 1001, 5000, 5001, 25000, 25001, 199999, 200000, 200001)[r.Intn(23)]
	}
	return r.Intn(40)
}

// numbersOf returns where the numbers of arguments are.
func numbersOf(x *input) []*int {
	a, p := &x.asked, &x.port
	l := []*int{&a.ship, &a.opening, &a.tick, &p.Levels.From, &p.Keel, &p.Follow, &p.Gap, &p.Margin}
	for i := range a.order {
		l = append(l, &a.order[i])
	}
	for _, plan := range [][]api.ShPassage{a.plan, a.after} {
		for i := range plan {
			l = append(l, &plan[i].Opening, &plan[i].Start, &plan[i].Anchor)
		}
	}
	for i := range p.Openings {
		o := &p.Openings[i]
		l = append(l, &o.Width, &o.Sill)
		for j := range o.Shut {
			l = append(l, &o.Shut[j].From, &o.Shut[j].Until)
		}
	}
	for i := range p.Anchors {
		l = append(l, &p.Anchors[i].Room, &p.Anchors[i].Turn)
	}
	for i := range p.Ships {
		s := &p.Ships[i]
		l = append(l, &s.Length, &s.Beam, &s.Draught, &s.Ready, &s.Pass, &s.Until, &s.Value)
	}
	for i := range p.Levels.Values {
		l = append(l, &p.Levels.Values[i])
	}
	return l
}

// oddInput returns arguments of which some are not right.
func oddInput(r *rand.Rand) input {
	x := rightInput(r)
	numbers := numbersOf(&x)
	for range r.Intn(3) {
		*numbers[r.Intn(len(numbers))] = odd(r)
	}
	switch r.Intn(20) {
	case 0:
		x.port.Openings = make([]api.ShOpening, r.Intn(5))
	case 1:
		x.port.Anchors = make([]api.ShAnchor, r.Intn(6))
	case 2:
		x.port.Ships = make([]api.ShShip, r.Intn(7))
	case 3:
		x.port.Levels.Values = make([]int, r.Intn(160))
	case 4:
		x.asked.order = make([]int, r.Intn(7))
	case 5:
		x.asked.plan = make([]api.ShPassage, r.Intn(7))
	case 6:
		x.asked.after = make([]api.ShPassage, r.Intn(7))
	}
	return x
}

// P6.12: any arguments are accepted, and not modified; the same ones have the same results, and these are new memory.
func TestP6_12Any(t *testing.T) {
	r := rand.New(rand.NewSource(612))
	all(input{})
	right, wrong := 0, 0
	for i := range 1500 {
		x := oddInput(r)
		if i%2 == 0 {
			x = rightInput(r)
		}
		before := copyInput(x)
		first := all(x)
		if !reflect.DeepEqual(x, before) {
			t.Fatalf("%+v was modified", before)
		}
		second, kept := all(x), all(copyInput(x))
		for j := range first {
			a, b, c := first[j], second[j], kept[j]
			if !reflect.DeepEqual(a, b) {
				t.Fatalf("%+v: %v, then %v", before, a, b)
			}
			switch {
			case a.e == api.OK:
				right++
			case a.name == "Check": // it tells where the error is
			case !isZero(a):
				t.Fatalf("%+v: %v", before, a)
			default:
				wrong++
			}
			l := slicesOf(reflect.ValueOf(a.value))
			slices.Sort(l)
			if len(slices.Compact(slices.Clone(l))) != len(l) {
				t.Fatalf("%+v: two lists of %v share memory", before, a)
			}
			overwrite(reflect.ValueOf(a.value))
			if !reflect.DeepEqual(x, before) || !reflect.DeepEqual(b, c) {
				t.Fatalf("%+v: %s is not new memory", before, a.name)
			}
		}
	}
	if right < 5000 || wrong < 2500 {
		t.Errorf("%d results without an error, %d with one: too few", right, wrong)
	}
}

// harbour returns a port at all of its limits.
func harbour() api.ShPort {
	p := api.ShPort{Keel: 25000, Follow: 50, Gap: 50, Margin: 50}
	p.Levels = api.Series{From: 199857, Values: slices.Repeat(ints(20000), 144)}
	for i := range 3 {
		p.Openings = append(p.Openings, api.ShOpening{Name: label(i), Width: 5000, Sill: -20000, Shut: shut(0, 199857, 0, 0, 200000, 200000, 5, 5)})
	}
	for i := range 4 {
		p.Anchors = append(p.Anchors, api.ShAnchor{Name: label(i), Inside: i == 3, Room: 5000, Turn: 5000})
	}
	for i := range 5 {
		p.Ships = append(p.Ships, api.ShShip{Name: label(i), Length: 500, Beam: 5000, Draught: 15000, Pass: 50, Until: 200000, Value: 1000})
	}
	return p
}

// P1, P6.12: a port at all of its limits, where ships pass, and where none can though all of it is tried.
func TestP6_12Full(t *testing.T) {
	p := harbour()
	plan := moves(0, 199857, 0, 1, 199857, 0, 2, 199857, 0, -1, -1, 0, -1, -1, 0)
	bests(t, "full", p, ints(0, 1, 2, 3, 4), plan, api.OK)
	worths(t, "full", p, plan, 3000, 3*199857)
	p.Follow = 44
	plan = moves(0, 199857, 0, 1, 199857, 0, 2, 199857, 0, 0, 199951, 0, 1, 199951, 0)
	bests(t, "with less between them", p, ints(0, 1, 2, 3, 4), plan, api.OK)
	free(t, "full", p, plan, 2, 199857, 199957)
	free(t, "full", p, plan, 0, 199857, 200051)
	free(t, "full", p, plan, 1, 199951, 200051)
	replanned(t, "full", p, plan, 199856, plan, api.OK)
	replanned(t, "full", p, plan, 199857, plan, api.OK)
	turned(t, "full", p, plan, moves(-1, -1, 0, -1, -1, 0, -1, -1, 0, -1, -1, 0, -1, -1, 0), 4, 3, 2, 1, 0)
	for i := range p.Anchors {
		p.Anchors[i].Room = 499
	}
	bests(t, "without room", p, ints(0, 1, 2, 3, 4), moves(-1, -1, 0, -1, -1, 0, -1, -1, 0, -1, -1, 0, -1, -1, 0), api.OK)
}
