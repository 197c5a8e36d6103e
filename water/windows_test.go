package water_test

import (
	"slices"
	"testing"

	"windsock/api"
	"windsock/water"
)

// TestWindows checks P1.5 (Windows).
func TestWindows(t *testing.T) {
	a, b, e := water.Windows(exampleSea(), exampleStrip(), exampleNeed())
	if e != api.OK || !slices.Equal(a, []api.Span{span(101, api.WaterDay)}) || !slices.Equal(b, a) {
		t.Error(a, b, e)
	}
	s := exampleSea()
	s.Glares = nil
	s.Boats = []api.Boat{
		{X: span(0, 3), Times: span(0, 0), Sure: true},
		{X: span(0, 3), Times: span(600, 700)},
		{X: span(0, 3), Times: span(800, 900), Sure: true},
		{X: span(0, 3), Times: span(901, 901)},
		{X: span(0, 3), Times: span(903, 903), Sure: true},
		{X: span(0, 3), Times: span(api.WaterDay, api.WaterDay), Sure: true},
	}
	a, b, e = water.Windows(s, exampleStrip(), exampleNeed())
	if e != api.OK || !slices.Equal(a, []api.Span{span(1, 599), span(701, 799), span(902, 902), span(904, 1439)}) ||
		!slices.Equal(b, []api.Span{span(1, 799), span(901, 902), span(904, 1439)}) {
		t.Error(a, b, e)
	}
	n := exampleNeed()
	n.Run = 5
	if a, b, e := water.Windows(exampleSea(), exampleStrip(), n); e != api.OK || len(a) != 0 || len(b) != 0 {
		t.Error(a, b, e)
	}
	if a, _, e := water.Windows(stillSea(1, 1, 0), api.Strip{Way: api.WaterN, Cells: 1}, easyNeed(1)); e != api.OK || !slices.Equal(a, []api.Span{span(0, api.WaterDay)}) {
		t.Error(a, e)
	}
	// a tide that comes in, a centimetre in each minute
	s = stillSea(1, 1, 0)
	s.Tide = api.Gauge{Rate: 1, Least: 0, Most: 100, Readings: []api.Reading{{Minute: 500, Value: span(20, 30)}}}
	n = easyNeed(1)
	n.Draught = 15
	a, b, e = water.Windows(s, api.Strip{Way: api.WaterN, Cells: 1}, n)
	if e != api.OK || !slices.Equal(a, []api.Span{span(495, 505)}) || !slices.Equal(b, []api.Span{span(0, api.WaterDay)}) {
		t.Error(a, b, e)
	}
	n.Draught = 31
	a, b, e = water.Windows(s, api.Strip{Way: api.WaterN, Cells: 1}, n)
	if e != api.OK || len(a) != 0 || !slices.Equal(b, []api.Span{span(0, 499), span(501, api.WaterDay)}) {
		t.Error(a, b, e)
	}
}

// inWindows returns whether each minute is in one of some windows, or what is wrong with them.
func inWindows(windows []api.Span) ([]bool, string) {
	minutes := make([]bool, api.WaterDay+1)
	for i, w := range windows {
		if w.Low < 0 || w.Low > w.High || w.High > api.WaterDay {
			return nil, "no minutes"
		}
		if i > 0 && w.Low <= windows[i-1].High+1 {
			return nil, "they touch"
		}
		for m := w.Low; m <= w.High; m++ {
			minutes[m] = true
		}
	}
	return minutes, ""
}

// TestWindowsMinuteByMinute checks P1.5 (Windows) against P1.4.
func TestWindowsMinuteByMinute(t *testing.T) {
	r := newRandom()
	many := 0
	for i := range 60 {
		s := smallSea(r)
		p, n := smallStrip(r, s.Chart), smallNeed(r)
		a, b, e := water.Windows(s, p, n)
		if e != api.OK {
			t.Fatal(i, e)
		}
		sure, wrong := inWindows(a)
		possible, wrongToo := inWindows(b)
		if wrong != "" || wrongToo != "" {
			t.Fatal(i, wrong, wrongToo, a, b)
		}
		for minute := range sure {
			if _, e := water.Sure(s, p, n, minute); (e == api.OK) != sure[minute] {
				t.Fatal(i, minute, e)
			}
			if is, _ := water.Possible(s, p, n, minute); is != possible[minute] {
				t.Fatal(i, minute, is)
			}
			if sure[minute] && !possible[minute] {
				t.Fatal(i, minute, "sure, and not possible")
			}
		}
		if len(a) > 0 && len(b) > 1 {
			many++
		}
	}
	if many < 3 {
		t.Error(many)
	}
}

// TestDeepest checks P1.5 (Deepest).
func TestDeepest(t *testing.T) {
	for _, x := range []struct{ run, minute, want int }{
		{2, 300, 150}, {3, 300, 140}, {4, 300, 140}, {1, 300, 350},
		{1, 599, 350}, {1, 600, 200}, {1, 700, 200}, {1, 701, 350}, {2, 650, 150}, {3, 650, 140},
	} {
		if d, e := water.Deepest(exampleSea(), exampleStrip(), x.run, x.minute); e != api.OK || d != x.want {
			t.Error(x, d, e)
		}
	}
	if d, e := water.Deepest(exampleSea(), exampleStrip(), 4, 650); d != 0 || e != api.ErrRule {
		t.Error(d, e)
	}
	// a boat that is surely there is in the way as well
	s := exampleSea()
	s.Boats[0].Sure = true
	if d, e := water.Deepest(s, exampleStrip(), 1, 650); d != 200 || e != api.OK {
		t.Error(d, e)
	}
	// from no water at all to more than counts
	for depth, want := range map[int]int{-51: -1, -50: 0, -49: 1, 4949: 4999, 4950: api.WaterDepth, 4951: api.WaterDepth, 5000: api.WaterDepth} {
		s := stillSea(1, 1, depth)
		s.Tide = api.Gauge{Least: 50, Most: 60}
		d, e := water.Deepest(s, api.Strip{Way: api.WaterN, Cells: 1}, 1, 0)
		if want < 0 && (d != 0 || e != api.ErrRule) || want >= 0 && (d != want || e != api.OK) {
			t.Error(depth, d, e)
		}
	}
}

// TestDeepestIsSure checks P1.5 (Deepest) against P1.4.
func TestDeepestIsSure(t *testing.T) {
	r := newRandom()
	seen := map[api.Errno]int{}
	for i := range 2000 {
		s := smallSea(r)
		p, run, minute := smallStrip(r, s.Chart), 1+r.IntN(3), r.IntN(api.WaterDay+1)
		d, e := water.Deepest(s, p, run, minute)
		seen[e]++
		s.East, s.North, s.Wave, s.Swell, s.Glares = api.Gauge{}, api.Gauge{}, api.Gauge{}, api.Gauge{}, nil
		n := easyNeed(run)
		want := api.ErrRule
		for draught := range 20 {
			n.Draught = draught
			if _, fits := water.Sure(s, p, n, minute); fits == api.OK {
				want = api.OK
				if draught > d {
					t.Fatal(i, draught, d)
				}
			} else if e == api.OK && draught <= d {
				t.Fatal(i, draught, d)
			}
		}
		if e != want {
			t.Fatal(i, e, want)
		}
	}
	if seen[api.OK] < 100 || seen[api.ErrRule] < 100 {
		t.Error(seen)
	}
}

// TestBest checks P1.6.
func TestBest(t *testing.T) {
	short := exampleStrip()
	short.Cells = 1
	for i, x := range []struct {
		strips      []api.Strip
		index, many int
		want        api.Errno
	}{
		{[]api.Strip{exampleStrip(), short}, 0, 1340, api.OK},
		{[]api.Strip{short, exampleStrip(), exampleStrip()}, 1, 1340, api.OK},
		{[]api.Strip{short}, 0, 0, api.ErrRule},
		{nil, 0, 0, api.ErrRule},
		{append(slices.Repeat([]api.Strip{short}, api.WaterStrips-1), exampleStrip()), api.WaterStrips - 1, 1340, api.OK},
		{slices.Repeat([]api.Strip{exampleStrip()}, api.WaterStrips+1), 0, 0, api.ErrLong},
		{make([]api.Strip, api.WaterStrips+1), 0, 0, api.ErrLong},
		{make([]api.Strip, api.WaterStrips), 0, 0, api.ErrArg},
	} {
		if j, m, e := water.Best(exampleSea(), x.strips, exampleNeed()); j != x.index || m != x.many || e != x.want {
			t.Error(i, j, m, e)
		}
	}
	if _, _, e := water.Best(api.Sea{}, make([]api.Strip, api.WaterStrips+1), api.Need{}); e != api.ErrLong {
		t.Error(e)
	}
	if _, _, e := water.Best(api.Sea{}, nil, exampleNeed()); e != api.ErrArg {
		t.Error(e)
	}
	if _, _, e := water.Best(exampleSea(), nil, api.Need{}); e != api.ErrArg {
		t.Error(e)
	}
	// minutes that are only possible do not count; a minute more does
	s := stillSea(3, 1, 10)
	s.Boats = []api.Boat{{X: span(0, 0), Times: span(5, 900)}, {X: span(1, 1), Times: span(5, 899)}, {X: span(2, 2), Times: span(6, 900), Sure: true}}
	at := func(x int) api.Strip { return api.Strip{X: x, Way: api.WaterN, Cells: 1} }
	if j, m, e := water.Best(s, []api.Strip{at(0), at(1), at(2)}, easyNeed(1)); j != 1 || m != 1441-895 || e != api.OK {
		t.Error(j, m, e)
	}
	// usable in one minute
	s.Boats = []api.Boat{{X: span(0, 0), Times: span(1, api.WaterDay)}}
	if j, m, e := water.Best(s, []api.Strip{at(0)}, easyNeed(1)); j != 0 || m != 1 || e != api.OK {
		t.Error(j, m, e)
	}
}

// TestNoneIsBetter checks P1.6 against P1.5.
func TestNoneIsBetter(t *testing.T) {
	r := newRandom()
	for i := range 60 {
		s := smallSea(r)
		n := smallNeed(r)
		var strips []api.Strip
		best, most := 0, 0
		for k := range 1 + r.IntN(6) {
			strips = append(strips, smallStrip(r, s.Chart))
			count := 0
			sure, _, _ := water.Windows(s, strips[k], n)
			for _, w := range sure {
				count += w.High - w.Low + 1
			}
			if count > most {
				best, most = k, count
			}
		}
		want := api.OK
		if most == 0 {
			want = api.ErrRule
		}
		if j, m, e := water.Best(s, strips, n); j != best || m != most || e != want {
			t.Fatal(i, j, m, e, best, most)
		}
	}
}
