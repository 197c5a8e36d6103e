package water_test

import (
	"math"
	"slices"
	"testing"

	"windsock/api"
	"windsock/water"
)

// badSeas returns seas that are not as defined.
func badSeas() []api.Sea {
	changes := []func(*api.Sea){
		func(s *api.Sea) { s.Wide, s.Depths = 0, nil },
		func(s *api.Sea) { s.Deep, s.Depths = 0, nil },
		func(s *api.Sea) { s.Wide, s.Deep = -2, -2 },
		func(s *api.Sea) { s.Wide, s.Deep = math.MinInt, math.MaxInt },
		func(s *api.Sea) { s.Wide, s.Depths = 13, slices.Repeat(s.Depths[:1], 13) },
		func(s *api.Sea) { s.Wide, s.Deep, s.Depths, s.Boats = 1, 13, slices.Repeat(s.Depths[:1], 13), nil },
		func(s *api.Sea) { s.Depths = s.Depths[:3] },
		func(s *api.Sea) { s.Depths = append(s.Depths, span(1, 1)) },
		func(s *api.Sea) { s.Depths = nil },
		func(s *api.Sea) { s.Depths[3] = span(300, 299) },
		func(s *api.Sea) { s.Depths[0].Low = -api.WaterDepth - 1 },
		func(s *api.Sea) { s.Depths[0].High = api.WaterDepth + 1 },
		func(s *api.Sea) { s.Tide.Least = -api.WaterTide - 1 },
		func(s *api.Sea) { s.Tide.Most = api.WaterTide + 1 },
		func(s *api.Sea) { s.Tide.Least = 61 },
		func(s *api.Sea) { s.East.Least = -api.WaterWind - 1 },
		func(s *api.Sea) { s.East.Most = api.WaterWind + 1 },
		func(s *api.Sea) { s.North.Least = -api.WaterWind - 1 },
		func(s *api.Sea) { s.North.Most = api.WaterWind + 1 },
		func(s *api.Sea) { s.Wave.Least = -1 },
		func(s *api.Sea) { s.Wave.Most = api.WaterWave + 1 },
		func(s *api.Sea) { s.Swell.Least = -1 },
		func(s *api.Sea) { s.Swell.Most = api.WaterWave + 1 },
		func(s *api.Sea) { s.Boats = slices.Repeat(s.Boats, api.WaterBoats+1) },
		func(s *api.Sea) { s.Boats[0].X = span(-1, 3) },
		func(s *api.Sea) { s.Boats[0].X = span(3, 4) },
		func(s *api.Sea) { s.Boats[0].X = span(3, 2) },
		func(s *api.Sea) { s.Boats[0].Y = span(-1, 0) },
		func(s *api.Sea) { s.Boats[0].Y = span(0, 1) },
		func(s *api.Sea) { s.Boats[0].Times = span(-1, 1) },
		func(s *api.Sea) { s.Boats[0].Times = span(700, 699) },
		func(s *api.Sea) { s.Boats[0].Times = span(700, api.WaterDay+1) },
		func(s *api.Sea) { s.Glares = slices.Repeat(s.Glares, api.WaterGlares+1) },
		func(s *api.Sea) { s.Glares[0].Way = 0 },
		func(s *api.Sea) { s.Glares[0].Way = 9 },
		func(s *api.Sea) { s.Glares[0].Times = span(-1, 0) },
		func(s *api.Sea) { s.Glares[0].Times = span(1, 0) },
		func(s *api.Sea) { s.Glares[0].Times = span(0, api.WaterDay+1) },
	}
	for i := range 5 {
		changes = append(changes, func(s *api.Sea) {
			gaugesOf(&s.Weather)[i].Readings = []api.Reading{{Minute: api.WaterDay + 1}}
		}, func(s *api.Sea) { gaugesOf(&s.Weather)[i].Rate = -1 })
	}
	var seas []api.Sea
	for _, change := range changes {
		s := exampleSea()
		change(&s)
		seas = append(seas, s)
	}
	return seas
}

// badStrips returns strips that are not on the chart of the sea s.
func badStrips() []api.Strip {
	return []api.Strip{
		{Way: api.WaterE, Cells: 0},
		{Way: api.WaterE, Cells: -1},
		{X: 2, Way: api.WaterE, Cells: 0},
		{X: 3, Way: api.WaterE, Cells: -2},
		{X: 3, Way: api.WaterE, Cells: math.MinInt},
		{Way: api.WaterE, Cells: 5},
		{Way: api.WaterE, Cells: 13},
		{Way: api.WaterE, Cells: math.MaxInt},
		{Way: api.WaterW, Cells: 2},
		{Way: api.WaterN, Cells: 2},
		{Way: api.WaterS, Cells: 2},
		{Way: api.WaterNE, Cells: 2},
		{Way: 0, Cells: 1},
		{Way: 9, Cells: 1},
		{Way: -1, Cells: 1},
		{X: -1, Way: api.WaterE, Cells: 2},
		{X: 4, Way: api.WaterW, Cells: 2},
		{X: math.MaxInt, Way: api.WaterE, Cells: 2},
		{Y: -1, Way: api.WaterN, Cells: 2},
		{Y: 1, Way: api.WaterS, Cells: 2},
	}
}

// badNeeds returns needs that are not as defined.
func badNeeds() []api.Need {
	changes := []func(*api.Need){
		func(n *api.Need) { n.Draught = -1 },
		func(n *api.Need) { n.Draught = api.WaterDepth + 1 },
		func(n *api.Need) { n.Run = 0 },
		func(n *api.Need) { n.Run = api.WaterGrid + 1 },
		func(n *api.Need) { n.Cross = -1 },
		func(n *api.Need) { n.Cross = api.WaterWind + 1 },
		func(n *api.Need) { n.Tail = -1 },
		func(n *api.Need) { n.Tail = api.WaterWind + 1 },
		func(n *api.Need) { n.Calm = -1 },
		func(n *api.Need) { n.Calm = 21 },
		func(n *api.Need) { n.Wave = api.WaterWave + 1 },
		func(n *api.Need) { n.Swell = -1 },
		func(n *api.Need) { n.Swell = api.WaterWave + 1 },
	}
	var needs []api.Need
	for _, change := range changes {
		n := exampleNeed()
		change(&n)
		needs = append(needs, n)
	}
	return needs
}

// TestCheck checks P1.1 (Check): each limit, and 1 beyond it.
func TestCheck(t *testing.T) {
	good := []func(*api.Sea){
		func(*api.Sea) {},
		func(s *api.Sea) { *s = stillSea(1, 1, 0) },
		func(s *api.Sea) { *s = stillSea(api.WaterGrid, api.WaterGrid, api.WaterDepth) },
		func(s *api.Sea) { s.Depths[0] = span(-api.WaterDepth, api.WaterDepth) },
		func(s *api.Sea) { s.Tide.Least, s.Tide.Most = -api.WaterTide, api.WaterTide },
		func(s *api.Sea) { s.East.Least, s.East.Most = -api.WaterWind, api.WaterWind },
		func(s *api.Sea) { s.North.Least, s.North.Most = -api.WaterWind, api.WaterWind },
		func(s *api.Sea) { s.Wave.Least, s.Wave.Most = 0, api.WaterWave },
		func(s *api.Sea) { s.Swell.Least, s.Swell.Most = 0, api.WaterWave },
		func(s *api.Sea) { s.Tide.Readings = []api.Reading{{Value: span(-api.WaterValue, api.WaterValue)}} },
		func(s *api.Sea) { s.Tide = clashing(s.Tide) },
		func(s *api.Sea) { s.Boats = slices.Repeat(s.Boats, api.WaterBoats) },
		func(s *api.Sea) { s.Boats[0].X, s.Boats[0].Times = span(0, 3), span(0, api.WaterDay) },
		func(s *api.Sea) { s.Glares = slices.Repeat(s.Glares, api.WaterGlares) },
		func(s *api.Sea) { s.Glares[0] = api.Glare{Way: api.WaterN, Times: span(0, api.WaterDay)} },
		func(s *api.Sea) { s.Glares[0] = api.Glare{Way: api.WaterNW, Times: span(5, 5)} },
	}
	for i, change := range good {
		s := exampleSea()
		change(&s)
		if e := water.Check(s); e != api.OK {
			t.Error(i, e)
		}
	}
	for i, s := range badSeas() {
		if e := water.Check(s); e != api.ErrArg {
			t.Error(i, e)
		}
	}
}

// badArguments returns seas, strips and needs, one of which is not as defined.
func badArguments() ([]api.Sea, []api.Strip, []api.Need) {
	seas := badSeas()
	strips := slices.Repeat([]api.Strip{exampleStrip()}, len(seas))
	needs := slices.Repeat([]api.Need{exampleNeed()}, len(seas))
	for _, p := range badStrips() {
		seas, strips, needs = append(seas, exampleSea()), append(strips, p), append(needs, exampleNeed())
	}
	for _, n := range badNeeds() {
		seas, strips, needs = append(seas, exampleSea()), append(strips, exampleStrip()), append(needs, n)
	}
	return seas, strips, needs
}

// TestBadArgumentsEverywhere checks the ErrArg of P1.4 to P1.6.
func TestBadArgumentsEverywhere(t *testing.T) {
	seas, strips, needs := badArguments()
	for i, s := range seas {
		p, n := strips[i], needs[i]
		// what comes later in the order of errors does not matter
		if i >= len(badSeas()) {
			s.Tide = clashing(s.Tide)
		}
		if is, e := water.Usable(s, exampleTruth(), p, n); is || e != api.ErrArg {
			t.Error(i, "usable", is, e)
		}
		if o, e := water.Sure(s, p, n, 300); o != 0 || e != api.ErrArg {
			t.Error(i, "sure", o, e)
		}
		if is, e := water.Possible(s, p, n, 300); is || e != api.ErrArg {
			t.Error(i, "possible", is, e)
		}
		if a, b, e := water.Windows(s, p, n); a != nil || b != nil || e != api.ErrArg {
			t.Error(i, "windows", a, b, e)
		}
		if j, m, e := water.Best(s, []api.Strip{exampleStrip(), p}, n); j != 0 || m != 0 || e != api.ErrArg {
			t.Error(i, "best", j, m, e)
		}
		if n == exampleNeed() {
			if d, e := water.Deepest(s, p, 2, 300); d != 0 || e != api.ErrArg {
				t.Error(i, "deepest", d, e)
			}
		}
	}
}

// TestMinutesAndRuns checks the limits of minutes and runs in P1.4 and P1.5.
func TestMinutesAndRuns(t *testing.T) {
	for minute, want := range map[int]api.Errno{0: api.OK, api.WaterDay: api.OK, -1: api.ErrArg, api.WaterDay + 1: api.ErrArg, math.MinInt: api.ErrArg, math.MaxInt: api.ErrArg} {
		s := exampleSea()
		s.Glares = nil
		if _, e := water.Sure(s, exampleStrip(), exampleNeed(), minute); e != want {
			t.Error(minute, "sure", e)
		}
		if is, e := water.Possible(s, exampleStrip(), exampleNeed(), minute); e != want || is != (want == api.OK) {
			t.Error(minute, "possible", is, e)
		}
		if _, e := water.Deepest(s, exampleStrip(), 2, minute); e != want {
			t.Error(minute, "deepest", e)
		}
	}
	for run, want := range map[int]api.Errno{0: api.ErrArg, 1: api.OK, 4: api.OK, 5: api.ErrRule, api.WaterGrid: api.ErrRule, api.WaterGrid + 1: api.ErrArg, math.MinInt: api.ErrArg} {
		if d, e := water.Deepest(exampleSea(), exampleStrip(), run, 300); e != want || e != api.OK && d != 0 {
			t.Error(run, d, e)
		}
	}
}

// TestNoCourse checks the ErrNone of P1.4 to P1.6.
func TestNoCourse(t *testing.T) {
	for i := range 5 {
		s := exampleSea()
		g := gaugesOf(&s.Weather)[i]
		*g = clashing(*g)
		p, n := exampleStrip(), exampleNeed()
		if o, e := water.Sure(s, p, n, 300); o != 0 || e != api.ErrNone {
			t.Error(i, "sure", o, e)
		}
		// not usable for other reasons either, but that is looked at later
		n.Draught = api.WaterDepth
		if _, e := water.Sure(s, p, n, 300); e != api.ErrNone {
			t.Error(i, "sure", e)
		}
		if is, e := water.Possible(s, p, n, 300); is || e != api.ErrNone {
			t.Error(i, "possible", is, e)
		}
		if a, b, e := water.Windows(s, p, n); a != nil || b != nil || e != api.ErrNone {
			t.Error(i, "windows", a, b, e)
		}
		if j, m, e := water.Best(s, []api.Strip{p}, n); j != 0 || m != 0 || e != api.ErrNone {
			t.Error(i, "best", j, m, e)
		}
		if _, _, e := water.Best(s, nil, n); e != api.ErrNone {
			t.Error(i, "best of none", e)
		}
		if is, e := water.Usable(s, exampleTruth(), p, exampleNeed()); !is || e != api.OK {
			t.Error(i, "usable", is, e)
		}
		d, e := water.Deepest(s, p, 2, 300)
		if i == 0 && (d != 0 || e != api.ErrNone) || i > 0 && (d != 150 || e != api.OK) {
			t.Error(i, "deepest", d, e)
		}
		if _, e := water.Deepest(s, p, 5, 300); i == 0 && e != api.ErrNone || i > 0 && e != api.ErrRule {
			t.Error(i, "deepest", e)
		}
	}
}
