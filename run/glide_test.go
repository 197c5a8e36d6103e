package run_test

import (
	"math/rand/v2"
	"slices"
	"testing"

	"windsock/api"
	"windsock/run"
)

// TestCeiling checks P3.3 (Ceiling).
func TestCeiling(t *testing.T) {
	for _, c := range []api.Craft{exampleCraft(), exampleTwin()} {
		for weight, want := range map[int]int{0: 200, 3000: 200, 3001: 120, 3500: 120, 4000: 120} {
			if n, e := run.Ceiling(c, weight); e != api.OK || n != want {
				t.Error(weight, n, e)
			}
		}
		for weight, want := range map[int]api.Errno{4001: api.ErrRule, api.RunWeight: api.ErrRule, api.RunWeight + 1: api.ErrArg, -1: api.ErrArg} {
			if n, e := run.Ceiling(c, weight); e != want || n != 0 {
				t.Error(weight, n, e)
			}
		}
	}
	for i, bad := range badCrafts() {
		if n, e := run.Ceiling(bad, 0); e != api.ErrArg || n != 0 {
			t.Error(i, n, e)
		}
	}
}

// TestLoss checks P3.3 (Loss).
func TestLoss(t *testing.T) {
	// what the aircraft does with two engines does not matter
	for _, c := range []api.Craft{exampleCraft(), exampleTwin()} {
		for way, want := range map[api.Compass]api.Span{
			api.WaterN: exactly(100), api.WaterNE: span(100, 160), api.WaterE: span(60, 120), api.WaterSE: span(100, 160),
			api.WaterS: exactly(100), api.WaterSW: span(120, 180), api.WaterW: span(80, 140), api.WaterNW: span(120, 180),
		} {
			if s, e := run.Loss(c, exampleAir(), way); e != api.OK || s != want {
				t.Error(way, s, e)
			}
		}
	}
	c := exampleCraft()
	north := api.Air{North: span(-3, 7)}
	for way, want := range map[api.Compass]api.Span{
		api.WaterN: span(86, 106), api.WaterNE: span(126, 146), api.WaterE: exactly(100), api.WaterSE: span(134, 154),
		api.WaterS: span(94, 114), api.WaterSW: span(134, 154), api.WaterW: exactly(100), api.WaterNW: span(126, 146),
	} {
		if s, e := run.Loss(c, north, way); e != api.OK || s != want {
			t.Error(way, s, e)
		}
	}
	// rounded up on diagonals alone, and at least 1
	c.Fall = 7
	if s, e := run.Loss(c, api.Air{}, api.WaterSE); e != api.OK || s != exactly(10) {
		t.Error(s, e)
	}
	if s, e := run.Loss(c, api.Air{East: span(3, 4)}, api.WaterE); e != api.OK || s != exactly(1) {
		t.Error(s, e)
	}
	if s, e := run.Loss(c, api.Air{East: span(2, 300)}, api.WaterE); e != api.OK || s != span(1, 3) {
		t.Error(s, e)
	}
	if s, e := run.Loss(widestCrafts()[1], widestAir(), api.WaterNW); e != api.OK || s != span(1, 58000) {
		t.Error(s, e)
	}
}

// TestLossErrors checks the errors of P3.3 (Loss).
func TestLossErrors(t *testing.T) {
	try := func(c api.Craft, a api.Air, way api.Compass) {
		t.Helper()
		if s, e := run.Loss(c, a, way); e != api.ErrArg || s != (api.Span{}) {
			t.Error(s, e)
		}
	}
	for _, bad := range badCrafts() {
		try(bad, exampleAir(), api.WaterN)
	}
	for _, bad := range badAirs() {
		try(exampleCraft(), bad, api.WaterN)
	}
	for _, way := range []api.Compass{-1, 0, 9} {
		try(exampleCraft(), exampleAir(), way)
	}
}

// badAirs returns winds that are not as defined.
func badAirs() []api.Air {
	var bad []api.Air
	for _, s := range []api.Span{span(1, 0), span(-api.RunWind-1, 0), span(0, api.RunWind+1)} {
		bad = append(bad, api.Air{East: s}, api.Air{North: s})
	}
	return bad
}

// TestLossSmall checks P3.3: in each wind the height lost lies within the bounds, and both are attained.
func TestLossSmall(t *testing.T) {
	r := newRandom()
	block := flat(3, 3)
	ends := map[api.Compass]int{api.WaterN: 7, api.WaterNE: 8, api.WaterE: 5, api.WaterSE: 2, api.WaterS: 1, api.WaterSW: 0, api.WaterW: 3, api.WaterNW: 6}
	for i := range 500 {
		c, a := smallCraft(r), smallAir(r)
		for way, end := range ends {
			want := span(1<<40, 0)
			for east := a.East.Low; east <= a.East.High; east++ {
				for north := a.North.Low; north <= a.North.High; north++ {
					lost := lostIn(c, block, 4, end, east, north)
					want = span(min(want.Low, lost), max(want.High, lost))
				}
			}
			if s, e := run.Loss(c, a, way); e != api.OK || s != want {
				t.Fatal(i, c, a, way, s, e, want)
			}
		}
	}
}

// TestNeeds checks P3.4 (Needs).
func TestNeeds(t *testing.T) {
	c, d, m, a := exampleCraft(), exampleTwin(), exampleLand(), exampleAir()
	dry := exampleLand()
	dry.Water[0] = false
	high := exampleLand()
	high.Ground[0] = 340
	wet := exampleLand()
	wet.Water[2] = true
	never := slices.Repeat([]int{api.RunNever}, 4)
	for i, one := range []struct {
		craft  api.Craft
		land   api.Land
		weight int
		want   []int
	}{
		{c, m, 3000, []int{0, 150, 350, 490}},
		{d, m, 3500, []int{0, 150, 350, 380}},
		{d, m, 3000, []int{0, 150, 350, 380}},
		// one engine asks no ceiling
		{c, m, api.RunWeight, []int{0, 150, 350, 490}},
		{c, dry, 3000, never},
		{d, dry, 3000, never},
		// water is as high as the ground there; above the ceiling each step costs
		{c, high, 0, []int{340, 480, 620, 760}},
		{d, high, 0, []int{340, 370, 400, 430}},
		// who comes down on a hill needs no clearance there
		{c, wet, 0, []int{0, 150, 300, 440}},
	} {
		if l, e := run.Needs(one.craft, one.land, a, one.weight); e != api.OK || !slices.Equal(l, one.want) {
			t.Error(i, l, e)
		}
	}
	// at the ceiling nothing is lost, and from just above it no more than comes down to it
	d.Ceilings = []api.RunRow{{Weight: 3000, Metres: 350}, {Weight: 4000, Metres: 349}}
	if l, e := run.Needs(d, m, a, 3000); e != api.OK || !slices.Equal(l, []int{0, 150, 350, 350}) {
		t.Error(l, e)
	}
	if l, e := run.Needs(d, m, a, 3001); e != api.OK || !slices.Equal(l, []int{0, 150, 350, 380}) {
		t.Error(l, e)
	}
	// diagonal steps, of which the loss is rounded up
	d.Sink, d.Ceilings = 7, []api.RunRow{{Weight: 0, Metres: 0}}
	lake := flat(2, 2, 0)
	lake.Ground[0] = 5
	if l, e := run.Needs(d, lake, a, 0); e != api.OK || !slices.Equal(l, []int{5, 12, 12, 15}) {
		t.Error(l, e)
	}
}

// TestNeedsOfHighest checks P3.4 where all is as high, and costs as much, as it can be.
func TestNeedsOfHighest(t *testing.T) {
	c := widestCrafts()[1]
	l := carved(api.RunGrid, api.RunGrid, api.RunMetres)
	l.Clear, l.Water[0] = api.RunMetres, true
	for engines, want := range map[int]int{1: 20000 + 11*58000, 2: 40000 + 10*28000} {
		c.Engines = engines
		if n, e := run.Needs(c, l, widestAir(), 0); e != api.OK || n[0] != 20000 || n[143] != want {
			t.Error(engines, n, e)
		}
	}
}

// TestEscape checks P3.4 (Escape).
func TestEscape(t *testing.T) {
	c, still := exampleCraft(), exampleCraft()
	still.Drag = 0
	plain := flat(3, 3, 2, 6, 8)
	for i, one := range []struct {
		craft        api.Craft
		land         api.Land
		cell, height int
		want         []int
	}{
		{c, exampleLand(), 3, 490, []int{3, 2, 1, 0}},
		{c, exampleLand(), 3, api.RunMetres, []int{3, 2, 1, 0}},
		{c, exampleLand(), 3, 489, nil},
		{c, exampleLand(), 2, 350, []int{2, 1, 0}},
		{c, exampleLand(), 2, 349, nil},
		{c, exampleLand(), 0, 0, []int{0}},
		{c, exampleLand(), 1, 0, nil},
		// two with as many cells: the first one in lexicographic order
		{still, plain, 0, 400, []int{0, 1, 2}},
		{still, plain, 0, 200, []int{0, 1, 2}},
		{still, plain, 0, 199, nil},
		{still, plain, 4, 140, []int{4, 2}},
		{still, plain, 4, 139, nil},
		{still, plain, 5, 100, []int{5, 2}},
		// fewer cells over a hill, more of them around it
		{still, carvedTo(flat(4, 2), 1, 300, 3), 0, 500, []int{0, 1, 2, 3}},
		{still, carvedTo(flat(4, 2), 1, 300, 3), 0, 399, []int{0, 5, 2, 3}},
		{still, carvedTo(flat(3, 3), 4, 900, 8), 0, 1040, []int{0, 4, 8}},
		{still, carvedTo(flat(3, 3), 4, 900, 8), 0, 1039, []int{0, 1, 5, 8}},
	} {
		l, e := run.Escape(one.craft, one.land, exampleAir(), 3000, one.cell, one.height)
		if want := errorIfNone(one.want); e != want || !slices.Equal(l, one.want) {
			t.Error(i, l, e)
		}
	}
	// with two engines, an escape can be long without any loss
	d, maze := exampleTwin(), snake()
	if l, e := run.Escape(d, maze, exampleAir(), 0, 0, 200); e != api.OK || !isEscape(d, maze, exampleAir(), 0, 200, l) || len(l) != 58 {
		t.Error(len(l), l, e)
	}
}

func errorIfNone(l []int) api.Errno {
	if l == nil {
		return api.ErrNone
	}
	return api.OK
}

// carvedTo returns a map with a hill in one cell, and usable water in another one.
func carvedTo(l api.Land, hill, high, water int) api.Land {
	l.Ground[hill], l.Water[water] = high, true
	return l
}

// snake returns a map with one long valley that ends in the last cell, in which there is water.
func snake() api.Land {
	l := flat(api.RunGrid, api.RunGrid, api.RunGrid*api.RunGrid-1)
	for cell := range l.Ground {
		x, y := cell%api.RunGrid, cell/api.RunGrid
		if y%4 == 1 && x != api.RunGrid-1 || y%4 == 3 && x != 0 {
			l.Ground[cell] = api.RunMetres
		}
	}
	l.Ground[len(l.Ground)-1] = 0
	return l
}

// TestEscapesSmall checks P3.4 against all lists of cells.
func TestEscapesSmall(t *testing.T) {
	r := newRandom()
	longest, never := 0, 0
	for i := range 700 {
		c, l, a := smallCraft(r), smallLand(r), smallAir(r)
		weight := toldWeight(r, c.Ceilings)
		needs, e := run.Needs(c, l, a, weight)
		if e != api.OK || len(needs) != len(l.Ground) {
			t.Fatal(i, needs, e)
		}
		for cell, need := range needs {
			heights := []int{r.IntN(150), r.IntN(150)}
			if need == api.RunNever {
				never++
				if slices.Contains(l.Water, true) {
					t.Fatal(i, c, l, a, weight, cell)
				}
			} else {
				heights = append(heights, need)
			}
			if need > 0 && need < api.RunNever {
				heights = append(heights, need-1)
			}
			for _, height := range heights {
				want := firstEscape(c, l, a, weight, cell, height)
				if (want != nil) != (height >= need) {
					t.Fatal(i, c, l, a, weight, cell, height, need, want)
				}
				list, e := run.Escape(c, l, a, weight, cell, height)
				if e != errorIfNone(want) || !slices.Equal(list, want) {
					t.Fatal(i, c, l, a, weight, cell, height, list, e, want)
				}
				longest = max(longest, len(list))
			}
		}
	}
	if longest < 4 || never < 20 {
		t.Error(longest, never)
	}
}

// wander returns a list of cells that somebody may propose: neighbours, up to the first water.
func wander(r *rand.Rand, l api.Land, cell int) []int {
	cells := []int{cell}
	for range 40 {
		if l.Water[cell] {
			break
		}
		next := neighbours(l, cell)
		cell = next[r.IntN(len(next))]
		cells = append(cells, cell)
	}
	return cells
}

// flyOut flies an escape in winds of which none is known, and reports whether it comes down on
// usable water, and is above all ground on its way.
func flyOut(r *rand.Rand, c api.Craft, l api.Land, a api.Air, weight, height int, cells []int) bool {
	for i, cell := range cells {
		if i > 0 && c.Engines == 1 {
			height -= lostIn(c, l, cells[i-1], cell, within(r, a.East), within(r, a.North))
		}
		if i > 0 && c.Engines == 2 {
			height = leftOf(c, l, a, weight, cells[i-1], cell, height)
		}
		if height < floorOf(l, cell) {
			return false
		}
	}
	return l.Water[cells[len(cells)-1]]
}

// TestEscapesAreFlown checks P3.4 on great maps: from the height that a cell needs water is
// reached in all winds, and from one metre below no list of cells is an escape.
func TestEscapesAreFlown(t *testing.T) {
	r := newRandom()
	reached, longest := 0, 0
	for i := range 60 {
		c, l, a := smallCraft(r), anyLand(r, 2+r.IntN(11), 2+r.IntN(11), 40, 300), smallAir(r)
		weight := toldWeight(r, c.Ceilings)
		needs, e := run.Needs(c, l, a, weight)
		if e != api.OK || !slices.Equal(needs, settledNeeds(c, l, a, weight)) {
			t.Fatal(i, c, l, a, weight, needs, e)
		}
		for cell, need := range needs {
			if need == api.RunNever {
				continue
			}
			list, e := run.Escape(c, l, a, weight, cell, need)
			if e != api.OK || !isEscape(c, l, a, weight, need, list) {
				t.Fatal(i, c, l, a, weight, cell, need, list, e)
			}
			for range 5 {
				if !flyOut(r, c, l, a, weight, need, list) {
					t.Fatal(i, c, l, a, weight, cell, need, list)
				}
				if isEscape(c, l, a, weight, need-1, wander(r, l, cell)) {
					t.Fatal(i, c, l, a, weight, cell, need)
				}
			}
			if need > 0 {
				if list, e := run.Escape(c, l, a, weight, cell, need-1); e != api.ErrNone || list != nil {
					t.Fatal(i, c, l, a, weight, cell, need-1, list, e)
				}
			}
			reached++
			longest = max(longest, len(list))
		}
	}
	if reached < 1000 || longest < 8 {
		t.Error(reached, longest)
	}
}

// TestEscapeErrors checks the errors of P3.4 (Needs and Escape).
func TestEscapeErrors(t *testing.T) {
	try := func(c api.Craft, l api.Land, a api.Air, weight int, want api.Errno) {
		t.Helper()
		if n, e := run.Needs(c, l, a, weight); e != want || n != nil {
			t.Error(n, e)
		}
		if n, e := run.Escape(c, l, a, weight, 0, 0); e != want || n != nil {
			t.Error(n, e)
		}
	}
	c, d, m, a := exampleCraft(), exampleTwin(), exampleLand(), exampleAir()
	for _, bad := range badCrafts() {
		try(bad, m, a, 0, api.ErrArg)
	}
	for _, bad := range badLands() {
		try(c, bad, a, 0, api.ErrArg)
		try(d, bad, a, 4001, api.ErrArg)
	}
	for _, bad := range badAirs() {
		try(c, m, bad, 0, api.ErrArg)
		try(d, m, bad, 4001, api.ErrArg)
	}
	for _, weight := range []int{-1, api.RunWeight + 1} {
		try(c, m, a, weight, api.ErrArg)
		try(d, m, a, weight, api.ErrArg)
	}
	try(d, m, a, 4001, api.ErrRule)
	for _, one := range []struct {
		weight, cell, height int
		want                 api.Errno
	}{
		{0, -1, 0, api.ErrArg}, {0, 4, 0, api.ErrArg}, {0, 0, -1, api.ErrArg}, {0, 0, api.RunMetres + 1, api.ErrArg},
		{4001, 4, 0, api.ErrArg}, {4001, 0, -1, api.ErrArg}, {4001, 3, 0, api.ErrRule}, {4000, 3, 0, api.ErrNone},
	} {
		if l, e := run.Escape(d, m, a, one.weight, one.cell, one.height); e != one.want || l != nil {
			t.Error(one, l, e)
		}
	}
}
