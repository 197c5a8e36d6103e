package run_test

import (
	"testing"

	"windsock/api"
	"windsock/run"
)

// exampleLeg returns the leg of the chapter, with the heights of its points.
func exampleLeg(heights ...int) []api.Fix {
	var leg []api.Fix
	for i, height := range heights {
		leg = append(leg, api.Fix{Cell: 3 - i, Height: height, Weight: span(2000, 3000)})
	}
	return leg
}

// TestLeg checks P3.5.
func TestLeg(t *testing.T) {
	for i, one := range []struct {
		craft api.Craft
		leg   []api.Fix
		want  int
	}{
		{exampleCraft(), exampleLeg(500, 400, 149), 2},
		{exampleCraft(), exampleLeg(490, 350, 150), -1},
		{exampleCraft(), exampleLeg(490, 350, 150, 0), -1},
		{exampleCraft(), exampleLeg(490, 349, 149), 1},
		{exampleCraft(), exampleLeg(489, 0, 0), 0},
		{exampleCraft(), nil, -1},
		{exampleTwin(), nil, -1},
		{exampleTwin(), exampleLeg(380, 350, 150), -1},
		{exampleTwin(), exampleLeg(379, 350, 150), 0},
		// the greatest weight of one engine need not be in the table
		{exampleCraft(), []api.Fix{{Cell: 3, Height: 490, Weight: span(0, api.RunWeight)}}, -1},
		// a cell twice
		{exampleCraft(), []api.Fix{{Cell: 3, Height: 490}, {Cell: 3, Height: 489}}, 1},
	} {
		if n, e := run.Leg(one.craft, exampleLand(), exampleAir(), one.leg); e != api.OK || n != one.want {
			t.Error(i, n, e)
		}
	}
	dry := exampleLand()
	dry.Water[0] = false
	if n, e := run.Leg(exampleCraft(), dry, exampleAir(), []api.Fix{{Height: api.RunMetres}}); e != api.OK || n != 0 {
		t.Error(n, e)
	}
}

// TestLegWeights checks P3.5: the greatest weight of each point has its own ceiling.
func TestLegWeights(t *testing.T) {
	d := exampleTwin()
	d.Ceilings = []api.RunRow{{Weight: 3000, Metres: 350}, {Weight: 4000, Metres: 120}}
	point := func(weight api.Span, height int) api.Fix { return api.Fix{Cell: 3, Height: height, Weight: weight} }
	for i, one := range []struct {
		leg  []api.Fix
		want int
	}{
		{[]api.Fix{point(span(0, 3000), 350)}, -1},
		{[]api.Fix{point(span(0, 3001), 350)}, 0},
		{[]api.Fix{point(exactly(4000), 380), point(span(0, 3000), 350), point(span(3000, 3001), 379)}, 2},
		{[]api.Fix{point(span(0, 3000), 350), point(exactly(4000), 379), point(span(0, 3000), 349)}, 1},
		{[]api.Fix{point(span(0, 3000), 350), point(exactly(4000), 380), point(span(0, 3000), 349)}, 2},
	} {
		if n, e := run.Leg(d, exampleLand(), exampleAir(), one.leg); e != api.OK || n != one.want {
			t.Error(i, n, e)
		}
	}
}

// TestLegErrors checks the errors of P3.5.
func TestLegErrors(t *testing.T) {
	try := func(c api.Craft, l api.Land, a api.Air, leg []api.Fix, want api.Errno) {
		t.Helper()
		if n, e := run.Leg(c, l, a, leg); e != want || n != 0 {
			t.Error(n, e)
		}
	}
	c, d, m, a := exampleCraft(), exampleTwin(), exampleLand(), exampleAir()
	try(c, m, a, make([]api.Fix, api.RunFixes+1), api.ErrLong)
	try(api.Craft{}, api.Land{}, api.Air{}, make([]api.Fix, api.RunFixes+1), api.ErrLong)
	for _, bad := range badCrafts() {
		try(bad, m, a, nil, api.ErrArg)
	}
	for _, bad := range badLands() {
		try(c, bad, a, nil, api.ErrArg)
	}
	for _, bad := range badAirs() {
		try(c, m, bad, nil, api.ErrArg)
	}
	heavy := api.Fix{Cell: 3, Weight: span(0, 4001)}
	for _, bad := range []api.Fix{
		{Cell: -1}, {Cell: 4}, {Height: -1}, {Height: api.RunMetres + 1},
		{Weight: span(-1, 0)}, {Weight: span(1, 0)}, {Weight: span(0, api.RunWeight+1)},
	} {
		try(c, m, a, []api.Fix{{}, bad}, api.ErrArg)
		try(d, m, a, []api.Fix{heavy, bad}, api.ErrArg)
	}
	// a weight without a ceiling comes ahead of a point that is not safe
	try(d, m, a, []api.Fix{{Cell: 3}, heavy}, api.ErrRule)
	try(d, m, a, []api.Fix{heavy}, api.ErrRule)
	if n, e := run.Leg(c, m, a, make([]api.Fix, api.RunFixes)); e != api.OK || n != -1 {
		t.Error(n, e)
	}
}

// TestLegsAreFlown checks P3.5 and P0.3: from each point that is told as safe water is reached in
// all winds, and from the first one that is not there is no escape.
func TestLegsAreFlown(t *testing.T) {
	r := newRandom()
	safe, stranded := 0, 0
	for i := range 400 {
		c, l, a := smallCraft(r), anyLand(r, 1+r.IntN(6), 1+r.IntN(6), 8, 60), smallAir(r)
		var leg []api.Fix
		for range r.IntN(6) {
			leg = append(leg, api.Fix{Cell: r.IntN(len(l.Ground)), Height: r.IntN(250), Weight: part(r, span(0, toldWeight(r, c.Ceilings)))})
		}
		at, e := run.Leg(c, l, a, leg)
		if e != api.OK || at < -1 || at >= len(leg) {
			t.Fatal(i, c, l, a, leg, at, e)
		}
		for k, point := range leg {
			list, e := run.Escape(c, l, a, point.Weight.High, point.Cell, point.Height)
			if k == at {
				stranded++
				if e != api.ErrNone {
					t.Fatal(i, c, l, a, leg, at, list, e)
				}
				break
			}
			safe++
			if e != api.OK || !flyOut(r, c, l, a, point.Weight.High, point.Height, list) {
				t.Fatal(i, c, l, a, leg, at, list, e)
			}
		}
	}
	if safe < 100 || stranded < 100 {
		t.Error(safe, stranded)
	}
}
