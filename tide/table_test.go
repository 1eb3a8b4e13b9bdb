package tide_test

import (
	"math"
	"math/big"
	"math/rand"
	"slices"
	"strings"
	"testing"

	"barrage/api"
	"barrage/tide"
)

// P1.1: names.
func TestP1_1Name(t *testing.T) {
	for name, want := range map[string]bool{
		"": false, "a": true, "z": true, "moon": true, "m2": true, "a-": true, "a--0": true, "a9z": true,
		"-a": false, "0a": false, "Moon": false, "mOon": false, "a b": false, "a_b": false, " a": false, "a ": false, "a\n": false, "m\u00fc": false, "\u00e9": false, "a.b": false,
		strings.Repeat("a", 24): true, strings.Repeat("a", 25): false, "a" + strings.Repeat("9", 23): true, "a" + strings.Repeat("-", 24): false,
	} {
		if tide.Name(name) != want {
			t.Errorf("Name(%q) is not %v", name, want)
		}
	}
	for b := range 256 {
		letter := 'a' <= b && b <= 'z'
		other := letter || '0' <= b && b <= '9' || b == '-'
		if tide.Name(string([]byte{byte(b)})) != letter {
			t.Errorf("Name of the byte %d", b)
		}
		if tide.Name(string([]byte{'x', byte(b)})) != other || tide.Name(string([]byte{'x', byte(b), 'y'})) != other {
			t.Errorf("Name with the byte %d behind the first one", b)
		}
	}
}

// P1.1: each number of a table, at both of its limits and beyond them.
func TestP1_1Limits(t *testing.T) {
	type change func(y *api.TdTable, x int)
	c := func(set func(c *api.TdConst, x int)) change {
		return func(y *api.TdTable, x int) { set(&y.Consts[1], x) }
	}
	for what, l := range map[string]struct {
		set    change
		lo, hi int
		at     int
	}{
		"Mean":         {func(y *api.TdTable, x int) { y.Mean = x }, -20000, 20000, -1},
		"first Height": {c(func(c *api.TdConst, x int) { c.Heights[0] = x }), -10000, 10000, 1},
		"last Height":  {c(func(c *api.TdConst, x int) { c.Heights[2] = x }), -10000, 10000, 1},
		"Den":          {c(func(c *api.TdConst, x int) { c.Den = x }), 1, 1000, 1},
		"Offset":       {c(func(c *api.TdConst, x int) { c.Offset = x }), 0, 3*5 - 1, 1},
		"Step":         {c(func(c *api.TdConst, x int) { c.Step = x }), 1, 100000, 1},
		"Slack":        {c(func(c *api.TdConst, x int) { c.Slack = x }), 0, 1000, 1},
	} {
		for _, x := range append(wild(), l.lo-1, l.lo, l.lo+1, l.hi-1, l.hi, l.hi+1) {
			y := moon()
			y.Consts = append(y.Consts, api.TdConst{Name: "sun", Heights: []int{1, 2, 3}, Step: 1, Den: 5})
			l.set(&y, x)
			at, e := tide.Check(y)
			if right := l.lo <= x && x <= l.hi; right && (at != 0 || e != api.OK) || !right && (at != l.at || e != api.ErrRange) {
				t.Errorf("%s %d: %d, %d", what, x, at, e)
			}
		}
	}
}

// P1.1: how many constituents and heights there may be.
func TestP1_1Counts(t *testing.T) {
	for n := range 14 {
		var y api.TdTable
		for i := range n {
			y.Consts = append(y.Consts, api.TdConst{Name: label(i), Heights: []int{0, 0}, Step: 1, Den: 1})
		}
		at, e := tide.Check(y)
		if n <= 12 && (at != 0 || e != api.OK) || n > 12 && (at != -1 || e != api.ErrLong) {
			t.Errorf("%d constituents: %d, %d", n, at, e)
		}
	}
	for n := range 60 {
		y := moon()
		y.Consts[0].Heights = make([]int, n)
		want := api.OK
		if n < 2 || n > 48 {
			want = api.ErrLong
		}
		if at, e := tide.Check(y); at != 0 || e != want {
			t.Errorf("%d heights: %d, %d", n, at, e)
		}
	}
}

// P1.1: of several errors the first one; all of them are there at first, and are taken away one after the other.
func TestP1_1Order(t *testing.T) {
	bad := api.TdConst{Name: "Bad", Heights: []int{99999}, Step: -1, Den: 0, Offset: -1, Slack: -1}
	y := api.TdTable{Mean: 20001, Consts: slices.Repeat([]api.TdConst{bad}, 13)}
	good := moon().Consts[0]
	for i, s := range []struct {
		repair func()
		at     int
		e      api.Errno
	}{
		{func() {}, -1, api.ErrRange},
		{func() { y.Mean = 20000 }, -1, api.ErrLong},
		{func() { y.Consts = y.Consts[:12] }, 0, api.ErrForm},
		{func() { y.Consts[0] = good }, 1, api.ErrForm},
		{func() { y.Consts[1].Name = "moon" }, 1, api.ErrTwice},
		{func() { y.Consts[1].Name = "sun" }, 1, api.ErrLong},
		{func() { y.Consts[1].Heights = []int{99999, 0} }, 1, api.ErrRange},
		{func() { y.Consts[1].Heights = []int{0, 0} }, 1, api.ErrRange},
		{func() { y.Consts[1].Den = 1 }, 1, api.ErrRange},
		{func() { y.Consts[1].Offset = 1 }, 1, api.ErrRange},
		{func() { y.Consts[1].Step = 1 }, 1, api.ErrRange},
		{func() { y.Consts[1].Slack = 0 }, 2, api.ErrForm},
		{func() { y.Consts = y.Consts[:3] }, 2, api.ErrForm},
		{func() { y.Consts[2] = y.Consts[1] }, 2, api.ErrTwice},
		{func() { y.Consts[2].Name = "node" }, 0, api.OK},
	} {
		s.repair()
		if at, e := tide.Check(y); at != s.at || e != s.e {
			t.Errorf("%d: %d, %d", i, at, e)
		}
	}
}

// P1.2, P1.3: the errors of Check come first, whatever the other arguments are.
func TestP1_2CheckFirst(t *testing.T) {
	for _, s := range []struct {
		change func(y *api.TdTable)
		e      api.Errno
	}{
		{func(y *api.TdTable) { y.Mean = -20001 }, api.ErrRange},
		{func(y *api.TdTable) { y.Consts = make([]api.TdConst, 13) }, api.ErrLong},
		{func(y *api.TdTable) { y.Consts[0].Name = "" }, api.ErrForm},
		{func(y *api.TdTable) { y.Consts = append(y.Consts, y.Consts[0]) }, api.ErrTwice},
		{func(y *api.TdTable) { y.Consts[0].Heights = nil }, api.ErrLong},
	} {
		y := moon()
		s.change(&y)
		for _, x := range append(wild(), 0) {
			level, e1 := tide.Level(y, x)
			levels, e2 := tide.Levels(y, x, x)
			high, e3 := tide.High(y, x, x)
			period, e4 := tide.Period(y)
			if e1 != s.e || e2 != s.e || e3 != s.e || e4 != s.e {
				t.Errorf("%d: %d, %d, %d, %d", s.e, e1, e2, e3, e4)
			}
			if level != sp(0, 0) || len(levels) != 0 || len(high) != 0 || period != 0 {
				t.Errorf("%d: results beside an error", s.e)
			}
		}
	}
}

// P1.2: which ticks there are.
func TestP1_2Ticks(t *testing.T) {
	for _, tick := range append(wild(), 0, 1, api.MaxTick-1, api.MaxTick, api.MaxTick+1) {
		want := api.OK
		if tick < 0 || tick > 200000 {
			want = api.ErrRange
		}
		if s, e := tide.Level(moon(), tick); e != want || e != api.OK && s != sp(0, 0) {
			t.Errorf("Level(%d) = %v, %d", tick, s, e)
		}
	}
	type test struct {
		from, n int
		e       api.Errno
	}
	l := []test{
		{0, 400, api.OK}, {0, 401, api.ErrLong}, {0, -1, api.ErrLong}, {-1, 401, api.ErrLong}, {-1, -1, api.ErrLong},
		{-1, 1, api.ErrRange}, {-1, 400, api.ErrRange}, {-399, 400, api.ErrRange}, {0, 1, api.OK},
		{200000, 1, api.OK}, {200000, 2, api.ErrRange}, {200001, 1, api.ErrRange}, {199601, 400, api.OK}, {199602, 400, api.ErrRange},
	}
	for _, x := range wild() {
		l = append(l, test{x, 0, api.OK}, test{x, 1, api.ErrRange}, test{x, 400, api.ErrRange}, test{0, x, api.ErrLong}, test{x, x, api.ErrLong})
	}
	for _, c := range l {
		s, e := tide.Levels(moon(), c.from, c.n)
		h, f := tide.High(moon(), c.from, c.n)
		if e != c.e || f != c.e {
			t.Errorf("Levels and High from %d, %d ticks: %d, %d", c.from, c.n, e, f)
		}
		if e == api.OK && len(s) != c.n || e != api.OK && len(s) != 0 || (e != api.OK || c.n == 0) && len(h) != 0 {
			t.Errorf("Levels and High from %d, %d ticks: %d, %d results", c.from, c.n, len(s), len(h))
		}
	}
}

// exactly returns the interpolated height of a constituent at a tick, as the chapter defines it.
func exactly(c api.TdConst, tick int) *big.Rat {
	n := len(c.Heights)
	p := big.NewInt(int64(c.Step))
	p.Mul(p, big.NewInt(int64(tick))).Add(p, big.NewInt(int64(c.Offset))).Mod(p, big.NewInt(int64(c.Den*n)))
	k, r := int(p.Int64())/c.Den, int(p.Int64())%c.Den
	return big.NewRat(int64(c.Heights[k]*(c.Den-r)+c.Heights[(k+1)%n]*r), int64(c.Den))
}

// floor and ceil round a rational number.
func floor(x *big.Rat) int { return int(new(big.Int).Div(x.Num(), x.Denom()).Int64()) }
func ceil(x *big.Rat) int  { return -floor(new(big.Rat).Neg(x)) }

// level returns the level of the tide at a tick, as the chapter defines it.
func level(y api.TdTable, tick int) api.Span {
	s := sp(y.Mean, y.Mean)
	for _, c := range y.Consts {
		x := exactly(c, tick)
		s.Lo += floor(x) - c.Slack
		s.Hi += ceil(x) + c.Slack
	}
	return s
}

// P1.2: levels by the definition, and by hand.
func TestP1_2Levels(t *testing.T) {
	two := moon()
	two.Consts = append(two.Consts, api.TdConst{Name: "sun", Heights: []int{-5, 8}, Offset: 1, Step: 1, Den: 3, Slack: 1})
	for _, c := range []struct {
		y    api.TdTable
		tick int
		want api.Span
	}{
		{api.TdTable{}, 7, sp(0, 0)},
		{api.TdTable{Mean: -20000}, 200000, sp(-20000, -20000)},
		{moon(), 0, sp(90, 110)}, {moon(), 1, sp(144, 165)}, {moon(), 37, sp(90, 110)}, {moon(), 38, sp(35, 56)},
		{two, 0, sp(88, 111)},  // the second one is -2 / 3: from -1 to 0, and 1 of slack
		{two, 1, sp(146, 170)}, // 11 / 3
		{two, 2, sp(205, 228)}, // it is at 8
		{two, 5, sp(354, 377)}, // and at -5, the first one again: 360 to 381 with -6 to -4
		{two, 4, sp(304, 328)}, // behind the last height, -2 / 3: 306 to 327 with -2 to 1
	} {
		if s, e := tide.Level(c.y, c.tick); s != c.want || e != api.OK {
			t.Errorf("Level at %d = %v, %d; not %v", c.tick, s, e, c.want)
		}
	}
	r := rand.New(rand.NewSource(1))
	for range 400 {
		y := anyTable(r, api.MaxTdDen)
		tick, n := from(r, 0, api.MaxTick-20), from(r, 0, 20)
		l, e := tide.Levels(y, tick, n)
		if len(l) != n || e != api.OK {
			t.Fatalf("Levels: %d of %d, %d", len(l), n, e)
		}
		for i := range l {
			one, e := tide.Level(y, tick+i)
			if want := level(y, tick+i); l[i] != want || one != want || e != api.OK {
				t.Fatalf("%+v at %d: %v, %v, %d; not %v", y, tick+i, l[i], one, e, want)
			}
		}
	}
}

// P1.2: the greatest numbers that a table can have.
func TestP1_2Greatest(t *testing.T) {
	var y api.TdTable
	y.Mean = api.MaxLevel
	for i := range api.MaxTdConsts {
		c := api.TdConst{Name: label(i), Heights: slices.Repeat([]int{api.MaxTdHeight}, api.MaxTdHeights), Den: api.MaxTdDen, Step: api.MaxTdStep - i, Slack: api.MaxTdSlack}
		c.Offset = c.Den*len(c.Heights) - 1 - i
		y.Consts = append(y.Consts, c)
	}
	if s, e := tide.Level(y, api.MaxTick); s != sp(20000+12*9000, 20000+12*11000) || e != api.OK {
		t.Errorf("%v, %d", s, e)
	}
	for i := range y.Consts {
		for j := range y.Consts[i].Heights {
			y.Consts[i].Heights[j] = (i*7919+j*104729)%20001 - 10000
		}
	}
	for _, tick := range []int{0, 1, 99999, api.MaxTick - 1, api.MaxTick} {
		if s, e := tide.Level(y, tick); s != level(y, tick) || e != api.OK {
			t.Errorf("at %d: %v, %d", tick, s, e)
		}
	}
}

// stairs returns a table whose level at the tick i is that from heights[i] less slack to heights[i] and slack.
func stairs(heights []int, slack int) api.TdTable {
	return api.TdTable{Consts: []api.TdConst{{Name: "stairs", Heights: heights, Step: 1, Den: 1, Slack: slack}}}
}

// P1.3: where the tide can be highest; levels that just touch the highest one, or just do not.
func TestP1_3High(t *testing.T) {
	for i, c := range []struct {
		y       api.TdTable
		from, n int
		want    []int
	}{
		{moon(), 18, 2, []int{18, 19}}, {moon(), 0, 2, []int{1}}, {moon(), 1, 1, []int{1}}, {moon(), 0, 0, nil},
		{moon(), 0, 150, []int{18, 19, 92, 93}},
		{stairs([]int{0, 20, 19, -1}, 10), 0, 4, []int{0, 1, 2}}, // 0 to 10 touches 10 to 30
		{stairs([]int{-1, 20, 0, 5}, 10), 0, 4, []int{1, 2, 3}},
		{stairs([]int{7, 6, 7}, 0), 0, 3, []int{0, 2}},
		{stairs([]int{7, 6, 8}, 0), 3, 6, []int{5, 8}},
		{stairs([]int{7, 6, 8}, 0), 3, 2, []int{3}},
		{stairs([]int{-9, -7}, 0), 0, 2, []int{1}},
		{api.TdTable{Mean: -1}, 5, 3, []int{5, 6, 7}},
	} {
		if l, e := tide.High(c.y, c.from, c.n); !slices.Equal(l, c.want) || e != api.OK {
			t.Errorf("%d: %v, %d; not %v", i, l, e, c.want)
		}
	}
}

// wheels returns a table of constituents with these cycles, each a Den and a number of heights.
func wheels(cycles [][2]int) api.TdTable {
	var y api.TdTable
	for i, c := range cycles {
		y.Consts = append(y.Consts, api.TdConst{Name: label(i), Heights: make([]int, c[1]), Den: c[0], Step: 1})
	}
	return y
}

// P1.3: periods, up to the greatest one.
func TestP1_3Period(t *testing.T) {
	step := func(y api.TdTable, step int) api.TdTable {
		y.Consts[0].Step = step
		return y
	}
	for i, c := range []struct {
		y    api.TdTable
		want int
		e    api.Errno
	}{
		{api.TdTable{}, 1, api.OK},
		{moon(), 74, api.OK},
		{step(moon(), 1), 148, api.OK}, {step(moon(), 148), 1, api.OK}, {step(moon(), 37), 4, api.OK}, {step(moon(), 149), 148, api.OK}, {step(moon(), 99999), 148, api.OK},
		{wheels([][2]int{{2, 2}, {3, 2}}), 12, api.OK}, {wheels([][2]int{{3, 2}, {3, 2}}), 6, api.OK}, {wheels([][2]int{{5, 3}, {7, 2}}), 210, api.OK},
		{wheels([][2]int{{1000, 48}}), 48000, api.OK},
		// 999999990 is 90 * 11 * 73 * 101 * 137, and 1000000027 is 13 * 17 * 59 * 271 * 283.
		{wheels([][2]int{{45, 2}, {11, 2}, {73, 2}, {101, 2}, {137, 2}}), 999999990, api.OK},
		{wheels([][2]int{{13, 17}, {283, 3}, {59, 2}, {271, 2}}), 0, api.ErrLong},
		{wheels([][2]int{{997, 47}, {991, 43}}), 0, api.ErrLong},
		{wheels([][2]int{{997, 47}, {991, 43}, {1, 2}}), 0, api.ErrLong},
	} {
		if n, e := tide.Period(c.y); n != c.want || e != c.e {
			t.Errorf("%d: %d, %d; not %d, %d", i, n, e, c.want, c.e)
		}
	}
	// A Step of 2 leaves of each cycle its odd factor, and their product is 1000000027, or less with 281 in place of 283.
	y := wheels([][2]int{{13, 2}, {17, 2}, {59, 2}, {271, 2}, {283, 2}})
	for i := range y.Consts {
		y.Consts[i].Step = 2
	}
	if n, e := tide.Period(y); n != 0 || e != api.ErrLong {
		t.Errorf("1000000027: %d, %d", n, e)
	}
	y.Consts[4].Den = 281
	if n, e := tide.Period(y); n != 13*17*59*271*281 || e != api.OK {
		t.Errorf("992932889: %d, %d", n, e)
	}
	// Products of many numbers without a common factor overflow any int, now above 0 and now below.
	primes := [][2]int{{997, 47}, {991, 43}, {983, 41}, {977, 37}, {971, 31}, {967, 29}, {953, 23}, {947, 19}, {941, 17}, {937, 13}, {929, 11}, {919, 7}}
	for n := 2; n <= len(primes); n++ {
		if x, e := tide.Period(wheels(primes[:n])); x != 0 || e != api.ErrLong {
			t.Errorf("%d primes: %d, %d", n, x, e)
		}
	}
}

// P1.8: each height is in its part, and with it each level in what Level returns; more slack gives no less.
func TestP1_8Parts(t *testing.T) {
	r := rand.New(rand.NewSource(8))
	for range 500 {
		y := anyTable(r, api.MaxTdDen)
		tick := from(r, 0, api.MaxTick)
		s, e := tide.Level(y, tick)
		if e != api.OK {
			t.Fatal(e)
		}
		low, high, lo, hi := y.Mean, y.Mean, new(big.Rat), new(big.Rat)
		for _, c := range y.Consts {
			x, slack := exactly(c, tick), big.NewRat(int64(c.Slack), 1)
			lo.Add(lo, x)
			hi.Add(hi, x)
			// The least and the greatest integer that differ by at most Slack.
			low += ceil(new(big.Rat).Sub(x, slack))
			high += floor(new(big.Rat).Add(x, slack))
		}
		if low <= high && (!has(s, low) || !has(s, high)) {
			t.Fatalf("%+v at %d: %d and %d are not in %v", y, tick, low, high, s)
		}
		if !has(s, y.Mean+floor(lo)) || !has(s, y.Mean+ceil(hi)) {
			t.Fatalf("%+v at %d: the interpolated level is not in %v", y, tick, s)
		}
		for i := range y.Consts {
			z := copyTable(y)
			z.Consts[i].Slack = min(z.Consts[i].Slack+1+r.Intn(9), api.MaxTdSlack)
			if more, e := tide.Level(z, tick); e != api.OK || !inside(s, more) {
				t.Fatalf("%+v at %d: with more slack %v, not %v", y, tick, more, s)
			}
		}
	}
}

// same reports whether after n ticks the places of all constituents are what they were.
func same(y api.TdTable, n int) bool {
	for _, c := range y.Consts {
		if c.Step*n%(c.Den*len(c.Heights)) != 0 {
			return false
		}
	}
	return true
}

// P1.3, P1.9: after a period, and after no fewer ticks, all begins again; an offset that is greater by a step is a tick.
func TestP1_9Cycles(t *testing.T) {
	r := rand.New(rand.NewSource(9))
	for range 300 {
		y := anyTable(r, 12)
		n, e := tide.Period(y)
		if e != api.OK || !same(y, n) {
			t.Fatalf("%+v: %d, %d", y, n, e)
		}
		for m := 1; m < min(n, 20000); m++ {
			if same(y, m) {
				t.Fatalf("%+v: %d, but %d is enough", y, n, m)
			}
		}
		tick := r.Intn(1000)
		next := copyTable(y)
		for i, c := range y.Consts {
			next.Consts[i].Offset = (c.Offset + c.Step) % (c.Den * len(c.Heights))
		}
		a, e1 := tide.Level(next, tick)
		b, e2 := tide.Level(y, tick+1)
		if a != b || e1 != api.OK || e2 != api.OK {
			t.Fatalf("%+v at %d: %v, %v", y, tick, a, b)
		}
		if tick+n > api.MaxTick {
			continue
		}
		a, e1 = tide.Level(y, tick)
		b, e2 = tide.Level(y, tick+n)
		if a != b || e1 != api.OK || e2 != api.OK {
			t.Fatalf("%+v at %d, and %d later: %v, %v", y, tick, n, a, b)
		}
	}
}

// P1.10: the greatest of any levels in their spans is at a tick of High; and each tick of High can have it.
func TestP1_10Highest(t *testing.T) {
	r := rand.New(rand.NewSource(10))
	for range 300 {
		y, at, n := anyTable(r, 9), r.Intn(500), 1+r.Intn(30)
		if r.Intn(2) == 0 {
			y = stairs([]int{r.Intn(9), r.Intn(9), r.Intn(9), r.Intn(9), r.Intn(9)}, r.Intn(3))
		}
		l, e1 := tide.Levels(y, at, n)
		high, e2 := tide.High(y, at, n)
		if e1 != api.OK || e2 != api.OK || len(high) == 0 || !slices.IsSorted(high) {
			t.Fatalf("%v, %d, %d", high, e1, e2)
		}
		for range 20 {
			top, where := math.MinInt, []int{}
			for i, s := range l {
				x := from(r, s.Lo, s.Hi)
				if x > top {
					top, where = x, nil
				}
				if x == top {
					where = append(where, at+i)
				}
			}
			for _, tick := range where {
				if !slices.Contains(high, tick) {
					t.Fatalf("%v: highest at %d, and not in %v", l, tick, high)
				}
			}
		}
		for i, s := range l {
			can := true
			for _, o := range l {
				can = can && s.Hi >= o.Lo
			}
			if slices.Contains(high, at+i) != can {
				t.Fatalf("%v: %d in %v", l, at+i, high)
			}
		}
	}
}
