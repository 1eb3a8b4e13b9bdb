package basin_test

import (
	"math/rand"
	"testing"

	"barrage/api"
	"barrage/basin"
)

// level tests the level of a volume.
func level(t *testing.T, what any, b api.BsBasin, volume int, want api.Span, wantE api.Errno) {
	t.Helper()
	need(t, b)
	if s, e := basin.Level(b, volume); s != want || e != wantE {
		t.Errorf("%v: Level of %d: %v, %d; not %v, %d", what, volume, s, e, want, wantE)
	}
}

// volume tests the volume of a level.
func volume(t *testing.T, what any, b api.BsBasin, at, want int, wantE api.Errno) {
	t.Helper()
	need(t, b)
	n, e := basin.Volume(b, at)
	gives(t, what, n, e, want, wantE)
}

// steps returns a basin whose rows are one, three and five m3 for each mm, and then one m3 for ten mm.
func steps() api.BsBasin {
	return api.BsBasin{Rows: rows(-13, 5, -3, 15, 7, 45, 17, 95, 27, 96)}
}

// P4.2: levels below 0 and above it, at rows, between them, and above the last one.
func TestP4_2Level(t *testing.T) {
	for v, want := range map[int]api.Span{
		5: sp(-13, -13), 6: sp(-12, -12), 14: sp(-4, -4), 15: sp(-3, -3), 16: sp(-3, -2), 17: sp(-3, -2), 18: sp(-2, -2),
		23: sp(-1, 0), 24: sp(0, 0), 25: sp(0, 1), 44: sp(6, 7), 45: sp(7, 7), 46: sp(7, 8), 49: sp(7, 8), 50: sp(8, 8), 94: sp(16, 17),
		95: sp(17, 17), 96: sp(27, 27), 97: sp(37, 37), 1000000000: sp(9999999067, 9999999067),
	} {
		level(t, "steps", steps(), v, want, api.OK)
	}
	for v, want := range map[int]api.Span{
		0: sp(-1000, -1000), 1: sp(-1000, -999), 999: sp(-1000, -999), 1000: sp(-999, -999), 999999: sp(-1, 0), 1000000: sp(0, 0),
		1000001: sp(0, 1), 1307000: sp(153, 154), 5000000: sp(2000, 2000), 5000001: sp(2000, 2001), 5002000: sp(2001, 2001), 1000000000: sp(499500, 499500),
	} {
		level(t, "estuary", estuary(), v, want, api.OK)
	}
	// As great as numbers can be here: 40000 mm for the last m3.
	steep := api.BsBasin{Rows: rows(-20000, 0, 20000, 1)}
	level(t, "steep", steep, 1000000000, sp(39999999980000, 39999999980000), api.OK)
	flat := api.BsBasin{Rows: rows(-20000, 0, 20000, 1000000000)}
	level(t, "flat", flat, 999999999, sp(19999, 20000), api.OK)
	level(t, "flat", flat, 1, sp(-20000, -19999), api.OK)
}

// P4.2: volumes of levels: just what is below the level, and no m3 more.
func TestP4_2Volume(t *testing.T) {
	for at, want := range map[int]int{-13: 5, -12: 6, -4: 14, -3: 15, -2: 18, -1: 21, 0: 24, 6: 42, 7: 45, 8: 50, 16: 90, 17: 95, 18: 95, 26: 95, 27: 96, 36: 96, 37: 97, 20000: 2093} {
		volume(t, "steps", steps(), at, want, api.OK)
	}
	for at, want := range map[int]int{-1000: 0, -999: 1000, -1: 999000, 0: 1000000, 1: 1002000, 153: 1306000, 1999: 4998000, 2000: 5000000, 2001: 5002000, 20000: 41000000} {
		volume(t, "estuary", estuary(), at, want, api.OK)
	}
	// No more than MaxVolume: a level of 1000 mm would have as much as that, and 1001 mm one m3 more.
	b := api.BsBasin{Rows: rows(999, 999999999, 1000, 1000000000)}
	for at, want := range map[int]int{999: 999999999, 1000: 1000000000, 1001: 1000000000, 20000: 1000000000} {
		volume(t, "full", b, at, want, api.OK)
	}
	flat := api.BsBasin{Rows: rows(-20000, 0, -19999, 1000000000)}
	volume(t, "flat", flat, 20000, 1000000000, api.OK)
}

// P4.2: volumes and levels that there are not.
func TestP4_2Range(t *testing.T) {
	for _, n := range append(wild(), 4, 5, 1000000000, 1000000001) {
		_, e := basin.Level(steps(), n)
		if right := 5 <= n && n <= 1000000000; right != (e == api.OK) || !right && e != api.ErrRange {
			t.Errorf("Level of %d: %d", n, e)
		}
		if n < 5 || n > 1000000000 {
			level(t, "steps", steps(), n, sp(0, 0), api.ErrRange)
		}
	}
	for _, n := range append(wild(), -20001, -20000, -14, -13, 20000, 20001) {
		_, e := basin.Volume(steps(), n)
		if right := -13 <= n && n <= 20000; right != (e == api.OK) || !right && e != api.ErrRange {
			t.Errorf("Volume of %d: %d", n, e)
		}
		if n < -13 || n > 20000 {
			volume(t, "steps", steps(), n, 0, api.ErrRange)
		}
	}
}

// P4.2, P4.10: levels and volumes of any basin, compared with the exact level.
func TestP4_10Levels(t *testing.T) {
	r := rand.New(rand.NewSource(410))
	for range 400 {
		b := anyBasin(r)
		need(t, b)
		least := b.Rows[0].Volume
		before := sp(-30000, -30000)
		for v := least; v < least+300; v++ {
			x := levelOf(b, v)
			level(t, b, b, v, sp(floor(x), ceil(x)), api.OK)
			s, _ := basin.Level(b, v)
			if rat(s.Lo).Cmp(x) > 0 || rat(s.Hi).Cmp(x) < 0 || s.Hi-s.Lo > 1 {
				t.Errorf("%v: %v is not in %v", b, x, s)
			}
			if s.Lo < before.Lo || s.Hi < before.Hi {
				t.Errorf("%v: at %d %v, and then %v", b, v, before, s)
			}
			before = s
			if n, e := basin.Volume(b, s.Hi); n < v || e != api.OK {
				t.Errorf("%v: Volume of %d: %d, %d; not at least %d", b, s.Hi, n, e, v)
			}
		}
		for at := b.Rows[0].Level; at < b.Rows[0].Level+150; at++ {
			n, e := basin.Volume(b, at)
			if e != api.OK || n < least || levelOf(b, n).Cmp(rat(at)) > 0 || levelOf(b, n+1).Cmp(rat(at)) <= 0 {
				t.Errorf("%v: Volume of %d: %d, %d", b, at, n, e)
			}
		}
	}
}
