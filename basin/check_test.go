package basin_test

import (
	"slices"
	"strings"
	"testing"

	"barrage/api"
	"barrage/basin"
)

// fails tests that a basin has an error, and that all functions return it, whatever else is wrong, and nothing else.
func fails(t *testing.T, what any, b api.BsBasin, part, at int, e api.Errno) {
	t.Helper()
	if p, a, f := basin.Check(b); p != part || a != at || f != e {
		t.Errorf("%v: %d, %d, %d; not %d, %d, %d", what, p, a, f, part, at, e)
	}
	if e == api.OK {
		return
	}
	for _, x := range []asked{badAsk(), {state: still(), level: 0}} {
		for _, y := range every(b, x) {
			if y.e != e || !isZero(y) {
				t.Errorf("%v: %s: %v, %d; not %d", what, y.name, y.value, y.e, e)
			}
		}
	}
}

// P4.1: the order of errors; all of them are there at first, and are taken away one after the other.
func TestP4_1Order(t *testing.T) {
	b := api.BsBasin{Leak: -1, Crest: 20001, Over: -1, Polders: make([]api.BsPolder, 7)}
	for i, s := range []struct {
		repair   func()
		part, at int
		e        api.Errno
	}{
		{func() {}, 1, 0, api.ErrLong},
		{func() { b.Rows = rows(-20001, -1, -20000, -1, -20001, -2) }, 1, 0, api.ErrRange},
		{func() { b.Rows[0].Volume = 0 }, 1, 0, api.ErrRange},
		{func() { b.Rows[0].Level = -1000 }, 1, 1, api.ErrRange},
		{func() { b.Rows[1].Volume = 0 }, 1, 1, api.ErrArg},
		{func() { b.Rows[1].Volume = 1000 }, 1, 1, api.ErrArg},
		{func() { b.Rows[1].Level = 0 }, 1, 2, api.ErrRange},
		{func() { b.Rows[2].Level = -1000 }, 1, 2, api.ErrRange},
		{func() { b.Rows[2].Volume = 1000 }, 1, 2, api.ErrArg},
		{func() { b.Rows[2].Volume = 1009 }, 1, 2, api.ErrArg},
		{func() { b.Rows[2].Level = 9 }, 2, 0, api.ErrRange},
		{func() { b.Leak = 2 }, 2, 0, api.ErrRange},
		{func() { b.Crest = 20000 }, 2, 0, api.ErrRange},
		{func() { b.Over = 10000 }, 3, 0, api.ErrLong},
		{func() { b.Polders = b.Polders[:3] }, 3, 0, api.ErrForm},
		{func() { b.Polders[0] = api.BsPolder{Name: "low", Sill: -1001, Take: -1, Room: -1} }, 3, 0, api.ErrRange},
		{func() { b.Polders[0].Sill = -1000 }, 3, 0, api.ErrRange},
		{func() { b.Polders[0].Take = 0 }, 3, 0, api.ErrRange},
		{func() { b.Polders[0].Room = 0 }, 3, 1, api.ErrForm},
		{func() { b.Polders[1] = api.BsPolder{Name: "low", Sill: -1001} }, 3, 1, api.ErrTwice},
		{func() { b.Polders[1].Name = "high" }, 3, 1, api.ErrRange},
		{func() { b.Polders[1].Sill = 5 }, 3, 2, api.ErrForm},
		{func() { b.Polders[2] = api.BsPolder{Name: "low", Take: 10001} }, 3, 2, api.ErrTwice},
		{func() { b.Polders[2].Name = "mid" }, 3, 2, api.ErrRange},
		{func() { b.Polders[2].Take = 10000 }, 4, 0, api.ErrArg},
		{func() { b.Leak = 1 }, 4, 0, api.ErrArg},
		{func() { b.Leak, b.Polders[2].Take = 2, 1 }, 4, 0, api.ErrArg},
		{func() { b.Leak = 1 }, 0, 0, api.OK},
	} {
		s.repair()
		fails(t, i, b, s.part, s.at, s.e)
	}
}

// P4.1: each number of a basin, at both of its limits and beyond them.
func TestP4_1Limits(t *testing.T) {
	for what, l := range map[string]struct {
		set      func(b *api.BsBasin, n int)
		lo, hi   int
		part, at int
	}{
		"first Level":  {func(b *api.BsBasin, n int) { b.Rows[0].Level, b.Leak, b.Polders = n, 0, nil }, -20000, -1, 1, 0},
		"first Volume": {func(b *api.BsBasin, n int) { b.Rows[0].Volume, b.Leak, b.Polders = n, 0, nil }, 0, 999999, 1, 0},
		"Level":        {func(b *api.BsBasin, n int) { b.Rows[1].Level, b.Leak, b.Polders = n, 0, nil }, -999, 1999, 1, 1},
		"Volume":       {func(b *api.BsBasin, n int) { b.Rows[1].Volume, b.Leak, b.Polders = n, 0, nil }, 1, 4999999, 1, 1},
		"last Level":   {func(b *api.BsBasin, n int) { b.Rows[2].Level, b.Leak, b.Polders = n, 0, nil }, 1, 20000, 1, 2},
		"last Volume":  {func(b *api.BsBasin, n int) { b.Rows[2].Volume, b.Leak, b.Polders = n, 0, nil }, 1000001, 1000000000, 1, 2},
		"Leak":         {func(b *api.BsBasin, n int) { b.Rows, b.Leak = wide(), n }, 0, 10000, 2, 0},
		"Crest":        {func(b *api.BsBasin, n int) { b.Crest = n }, -20000, 20000, 2, 0},
		"Over":         {func(b *api.BsBasin, n int) { b.Over = n }, 0, 10000, 2, 0},
		"first Sill":   {func(b *api.BsBasin, n int) { b.Polders[0].Sill = n }, -1000, 20000, 3, 0},
		"Sill":         {func(b *api.BsBasin, n int) { b.Polders[1].Sill = n }, -1000, 20000, 3, 1},
		"first Take":   {func(b *api.BsBasin, n int) { b.Rows, b.Polders[0].Take = wide(), n }, 0, 10000, 3, 0},
		"Take":         {func(b *api.BsBasin, n int) { b.Rows, b.Polders[1].Take = wide(), n }, 0, 10000, 3, 1},
		"first Room":   {func(b *api.BsBasin, n int) { b.Polders[0].Room = n }, 0, 1000000000, 3, 0},
		"Room":         {func(b *api.BsBasin, n int) { b.Polders[1].Room = n }, 0, 1000000000, 3, 1},
	} {
		for _, n := range append(wild(), l.lo-1, l.lo, l.lo+1, l.hi-1, l.hi, l.hi+1) {
			b := estuary()
			l.set(&b, n)
			if l.lo <= n && n <= l.hi {
				fails(t, what, b, 0, 0, api.OK)
				continue
			}
			at, e := l.at, api.ErrRange
			switch {
			case l.part != 1:
			case strings.HasSuffix(what, "Level") && -20000 <= n && n <= 20000, strings.HasSuffix(what, "Volume") && 0 <= n && n <= 1000000000:
				// What is in its range, and not between its neighbours, is an error of the row behind.
				e = api.ErrArg
				if n > l.hi {
					at++
				}
			}
			fails(t, what, b, l.part, at, e)
		}
	}
}

// wide returns rows of the levels of the estuary that are wide enough for all rates.
func wide() []api.BsRow {
	return rows(-1000, 0, 0, 10000000, 2000, 30000000)
}

// P4.1: how many rows and polders there may be.
func TestP4_1Long(t *testing.T) {
	for n := range 30 {
		b := estuary()
		b.Rows = nil
		for i := range n {
			b.Rows = append(b.Rows, api.BsRow{Level: i - 1000, Volume: 300 * i})
		}
		if 2 <= n && n <= 12 {
			fails(t, n, b, 0, 0, api.OK)
		} else {
			fails(t, n, b, 1, 0, api.ErrLong)
		}
		b = estuary()
		b.Polders = nil
		for i := range min(n, 26) {
			b.Polders = append(b.Polders, api.BsPolder{Name: label(i)})
		}
		if n <= 6 {
			fails(t, n, b, 0, 0, api.OK)
		} else {
			fails(t, n, b, 3, 0, api.ErrLong)
		}
	}
}

// P4.1: the first row or polder with an error decides, whatever the others have; the names of polders.
func TestP4_1Basins(t *testing.T) {
	for what, c := range map[string]struct {
		set      func(b *api.BsBasin)
		part, at int
		e        api.Errno
	}{
		"as it is":              {func(b *api.BsBasin) {}, 0, 0, api.OK},
		"nothing":               {func(b *api.BsBasin) { *b = api.BsBasin{} }, 1, 0, api.ErrLong},
		"next to nothing":       {func(b *api.BsBasin) { *b = api.BsBasin{Rows: rows(0, 0, 1, 1)} }, 0, 0, api.OK},
		"no names":              {func(b *api.BsBasin) { b.Polders[0].Name, b.Polders[1].Name = "", "" }, 3, 0, api.ErrForm},
		"a capital":             {func(b *api.BsBasin) { b.Polders[1].Name = "High" }, 3, 1, api.ErrForm},
		"a long name":           {func(b *api.BsBasin) { b.Polders[1].Name = strings.Repeat("a", 24) }, 0, 0, api.OK},
		"a name that is longer": {func(b *api.BsBasin) { b.Polders[1].Name = strings.Repeat("a", 25) }, 3, 1, api.ErrForm},
		"the same name":         {func(b *api.BsBasin) { b.Polders[1].Name = "low" }, 3, 1, api.ErrTwice},
		"not its neighbour's": {func(b *api.BsBasin) {
			b.Polders = append(b.Polders, api.BsPolder{Name: "mid"}, api.BsPolder{Name: "low"})
		}, 3, 3, api.ErrTwice},
		"a range before a form":      {func(b *api.BsBasin) { b.Polders[0].Room, b.Polders[1].Name = -1, "" }, 3, 0, api.ErrRange},
		"an order before a range":    {func(b *api.BsBasin) { b.Rows[1].Volume, b.Rows[2].Volume = 0, -1 }, 1, 1, api.ErrArg},
		"equal levels":               {func(b *api.BsBasin) { b.Rows[2].Level = 0 }, 1, 2, api.ErrArg},
		"equal volumes":              {func(b *api.BsBasin) { b.Rows[2].Volume = 1000000 }, 1, 2, api.ErrArg},
		"levels that descend":        {func(b *api.BsBasin) { b.Rows[2].Level = -5 }, 1, 2, api.ErrArg},
		"polders at the same sill":   {func(b *api.BsBasin) { b.Polders[0].Sill = 1000 }, 0, 0, api.OK},
		"a sill above all rows":      {func(b *api.BsBasin) { b.Polders[0].Sill = 15000 }, 0, 0, api.OK},
		"a crest below the first":    {func(b *api.BsBasin) { b.Crest = -15000 }, 0, 0, api.OK},
		"all errors of a polder":     {func(b *api.BsBasin) { b.Polders[1] = api.BsPolder{Name: "low", Take: -1} }, 3, 1, api.ErrTwice},
		"a polder like that to come": {func(b *api.BsBasin) { b.Polders[0] = b.Polders[1] }, 3, 1, api.ErrTwice},
	} {
		b := estuary()
		c.set(&b)
		fails(t, what, b, c.part, c.at, c.e)
	}
}

// P4.1: how wide a basin has to be: of Leak and each Take, and between any two neighbouring rows.
func TestP4_1Wide(t *testing.T) {
	for _, at := range ints(0, 1, 2) {
		for _, wide := range ints(69, 70, 71) {
			for rate := range 4 {
				b := tub(api.BsPolder{Name: "a"}, api.BsPolder{Name: "b"}, api.BsPolder{Name: "c"})
				b.Rows, b.Over = rows(-5, 3), 10000
				for i := range 3 {
					r := b.Rows[i]
					r.Level += 10
					r.Volume += 1000
					if i == at {
						r.Volume += wide - 1000
					}
					b.Rows = append(b.Rows, r)
				}
				*[]*int{&b.Leak, &b.Polders[0].Take, &b.Polders[1].Take, &b.Polders[2].Take}[rate] = 7
				if wide < 70 {
					fails(t, wide, b, 4, 0, api.ErrArg)
				} else {
					fails(t, wide, b, 0, 0, api.OK)
				}
			}
		}
	}
	// It is each of them alone that counts, not all together.
	b := tub(api.BsPolder{Name: "a", Take: 2}, api.BsPolder{Name: "b", Take: 2})
	b.Leak = 2
	fails(t, "together", b, 0, 0, api.OK)
	b.Polders[1].Take = 3
	fails(t, "one", b, 4, 0, api.ErrArg)
}

// stateFails tests that a state has an error, and that all functions with a state return it, and nothing else.
func stateFails(t *testing.T, what any, b api.BsBasin, s api.BsState, e api.Errno) {
	t.Helper()
	need(t, b)
	if f := basin.CheckState(b, s); f != e {
		t.Errorf("%v: %d; not %d", what, f, e)
	}
	if e == api.OK {
		return
	}
	x := badAsk()
	x.state = s
	for _, y := range every(b, x) {
		if y.e != e && !slices.Contains([]string{"Level", "Volume", "Total"}, y.name) || !isZero(y) {
			t.Errorf("%v: %s: %v, %d; not %d", what, y.name, y.value, y.e, e)
		}
	}
}

// P4.3: the errors of a state.
func TestP4_3CheckState(t *testing.T) {
	high := estuary()
	high.Rows[0].Volume = 50
	for n := range 9 {
		e := api.ErrArg
		if n == 2 {
			e = api.OK
		}
		stateFails(t, n, estuary(), state(0, make([]int, n)...), e)
		if n != 2 {
			stateFails(t, "two errors", estuary(), state(-1, slices.Repeat(ints(-1), n)...), api.ErrArg)
		}
	}
	stateFails(t, "no polders", tub(), state(0), api.OK)
	stateFails(t, "no polders", tub(), state(0, 0), api.ErrArg)
	for what, l := range map[string]struct {
		b      api.BsBasin
		set    func(s *api.BsState, n int)
		lo, hi int
	}{
		"Volume":            {estuary(), func(s *api.BsState, n int) { s.Volume = n }, 0, 1000000000},
		"Volume, not empty": {high, func(s *api.BsState, n int) { s.Volume = n }, 50, 1000000000},
		"first":             {estuary(), func(s *api.BsState, n int) { s.Filled[0] = n }, 0, 50000},
		"second":            {estuary(), func(s *api.BsState, n int) { s.Filled[1] = n }, 0, 400000},
	} {
		for _, n := range append(wild(), l.lo-1, l.lo, l.lo+1, l.hi-1, l.hi, l.hi+1) {
			s := still()
			l.set(&s, n)
			e := api.ErrRange
			if l.lo <= n && n <= l.hi {
				e = api.OK
			}
			stateFails(t, what, l.b, s, e)
		}
	}
}
