package run_test

import (
	"testing"

	"windsock/api"
	"windsock/run"
)

// tableChanges returns what makes a table none.
func tableChanges() []func(rows *[]api.RunRow) {
	return []func(*[]api.RunRow){
		func(rows *[]api.RunRow) { *rows = nil },
		func(rows *[]api.RunRow) { *rows = []api.RunRow{} },
		func(rows *[]api.RunRow) { *rows = rowsOf(api.RunRows + 1) },
		func(rows *[]api.RunRow) { (*rows)[0].Weight = -1 },
		func(rows *[]api.RunRow) { (*rows)[len(*rows)-1].Weight = api.RunWeight + 1 },
		func(rows *[]api.RunRow) { (*rows)[0].Metres = -1 },
		func(rows *[]api.RunRow) { *rows = []api.RunRow{{Weight: 1, Metres: api.RunMetres + 1}} },
		func(rows *[]api.RunRow) { *rows = []api.RunRow{{Weight: 5}, {Weight: 5}} },
		func(rows *[]api.RunRow) { *rows = []api.RunRow{{Weight: 5}, {Weight: 7}, {Weight: 6}} },
	}
}

// rowsOf returns a table of so many rows.
func rowsOf(rows int) []api.RunRow {
	var table []api.RunRow
	for i := range rows {
		table = append(table, api.RunRow{Weight: i, Metres: 7})
	}
	return table
}

// badCrafts returns aircraft that are not as defined.
func badCrafts() []api.Craft {
	changes := []func(*api.Craft){
		func(c *api.Craft) { c.Off[1].Metres = 299 },
		func(c *api.Craft) { c.On = []api.RunRow{{Weight: 1, Metres: 8}, {Weight: 2, Metres: 7}} },
		func(c *api.Craft) { c.Ceilings[1].Metres = 201 },
		func(c *api.Craft) { c.Glass = -1 },
		func(c *api.Craft) { c.Glass, c.Rough = 6, 5 },
		func(c *api.Craft) { c.Rough = api.RunWave + 1 },
		func(c *api.Craft) { c.GlassBy = 999 },
		func(c *api.Craft) { c.GlassBy = api.RunFactor + 1 },
		func(c *api.Craft) { c.RoughBy = 999 },
		func(c *api.Craft) { c.RoughBy = api.RunFactor + 1 },
		func(c *api.Craft) { c.Head = -1 },
		func(c *api.Craft) { c.Head = api.RunDrag + 1 },
		func(c *api.Craft) { c.Tail = -1 },
		func(c *api.Craft) { c.Tail = api.RunDrag + 1 },
		func(c *api.Craft) { c.Engines = 0 },
		func(c *api.Craft) { c.Engines = 3 },
		func(c *api.Craft) { c.Fall = 0 },
		func(c *api.Craft) { c.Fall = api.RunMetres + 1 },
		func(c *api.Craft) { c.Drag = -1 },
		func(c *api.Craft) { c.Drag = api.RunDrag + 1 },
		func(c *api.Craft) { c.Sink = -1 },
		func(c *api.Craft) { c.Sink = api.RunMetres + 1 },
	}
	for _, change := range tableChanges() {
		changes = append(changes,
			func(c *api.Craft) { change(&c.Off) },
			func(c *api.Craft) { change(&c.On) },
			func(c *api.Craft) { change(&c.Ceilings) })
	}
	var bad []api.Craft
	for _, change := range changes {
		c := exampleCraft()
		change(&c)
		bad = append(bad, c)
	}
	return bad
}

// widestCrafts returns aircraft whose numbers are as small and as great as they can be.
func widestCrafts() []api.Craft {
	least := []api.RunRow{{}}
	most := rowsOf(api.RunRows)
	for i := range most {
		most[i].Metres = api.RunMetres
	}
	most[api.RunRows-1].Weight = api.RunWeight
	return []api.Craft{
		{Off: least, On: least, GlassBy: 1000, RoughBy: 1000, Engines: 1, Fall: 1, Ceilings: least},
		{
			Off: most, On: most, Glass: api.RunWave, Rough: api.RunWave, GlassBy: api.RunFactor, RoughBy: api.RunFactor,
			Head: api.RunDrag, Tail: api.RunDrag, Engines: 2, Fall: api.RunMetres, Drag: api.RunDrag, Ceilings: most, Sink: api.RunMetres,
		},
	}
}

// TestCheck checks P3.1 (Check).
func TestCheck(t *testing.T) {
	for i, c := range append(widestCrafts(), exampleCraft(), exampleTwin()) {
		if e := run.Check(c); e != api.OK {
			t.Error(i, e)
		}
	}
	for i, c := range badCrafts() {
		if e := run.Check(c); e != api.ErrArg {
			t.Error(i, c, e)
		}
	}
	if e := run.Check(api.Craft{}); e != api.ErrArg {
		t.Error(e)
	}
}

// badLands returns maps that are not as defined.
func badLands() []api.Land {
	var bad []api.Land
	for _, change := range []func(*api.Land){
		func(l *api.Land) { *l = api.Land{} },
		func(l *api.Land) { l.Wide, l.Ground, l.Water = 0, nil, nil },
		func(l *api.Land) { l.Deep, l.Ground, l.Water = 0, nil, nil },
		func(l *api.Land) { l.Wide, l.Deep = -4, -1 },
		func(l *api.Land) { *l = flat(api.RunGrid+1, 1) },
		func(l *api.Land) { *l = flat(1, api.RunGrid+1) },
		func(l *api.Land) { l.Wide = 3 },
		func(l *api.Land) { l.Deep = 2 },
		func(l *api.Land) { l.Ground = l.Ground[:3] },
		func(l *api.Land) { l.Ground = append(l.Ground, 0) },
		func(l *api.Land) { l.Water = l.Water[:3] },
		func(l *api.Land) { l.Water = append(l.Water, true) },
		func(l *api.Land) { l.Ground[3] = -1 },
		func(l *api.Land) { l.Ground[2] = api.RunMetres + 1 },
		func(l *api.Land) { l.Clear = -1 },
		func(l *api.Land) { l.Clear = api.RunMetres + 1 },
	} {
		l := exampleLand()
		change(&l)
		bad = append(bad, l)
	}
	return bad
}

// TestMap checks P3.1 (Map).
func TestMap(t *testing.T) {
	widest := carved(api.RunGrid, api.RunGrid, api.RunMetres)
	widest.Clear = api.RunMetres
	for i, l := range []api.Land{exampleLand(), flat(1, 1), widest, flat(1, api.RunGrid), flat(api.RunGrid, 1)} {
		if e := run.Map(l); e != api.OK {
			t.Error(i, e)
		}
	}
	for i, l := range badLands() {
		if e := run.Map(l); e != api.ErrArg {
			t.Error(i, l, e)
		}
	}
}

// TestLength checks P3.1 (Length).
func TestLength(t *testing.T) {
	c := exampleCraft()
	c.On = []api.RunRow{{Weight: 0, Metres: 0}, {Weight: 100, Metres: 501}, {Weight: 100000, Metres: 501}}
	for i, one := range []struct {
		kind                     api.RunKind
		weight, along, wave, run int
	}{
		{api.RunOff, 2600, -20, 10, 380},
		{api.RunOff, 2600, 10, 10, 470},
		{api.RunOff, 2600, -20, 3, 506},
		{api.RunOff, 2600, -20, 50, 464},
		// the rows
		{api.RunOff, 0, 0, 10, 300},
		{api.RunOff, 2500, 0, 10, 300},
		{api.RunOff, 2501, 0, 10, 420},
		{api.RunOff, 3000, 0, 10, 420},
		{api.RunOff, 3001, 0, 10, 600},
		{api.RunOff, 3500, 0, 10, 600},
		{api.RunOn, 1, 0, 10, 501},
		{api.RunOn, api.RunWeight, 0, 10, 501},
		// the waves
		{api.RunOff, 2600, 0, 0, 546},
		{api.RunOff, 2600, 0, 4, 546},
		{api.RunOff, 2600, 0, 5, 420},
		{api.RunOff, 2600, 0, 40, 420},
		{api.RunOff, 2600, 0, 41, 504},
		{api.RunOff, 2600, 0, api.RunWave, 504},
		// rounded up ahead of the wind, and at least 1
		{api.RunOn, 50, 0, 4, 652},
		{api.RunOn, 50, 1, 4, 657},
		{api.RunOn, 50, -1, 4, 650},
		{api.RunOn, 50, 0, 41, 602},
		{api.RunOn, 0, 0, 10, 1},
		{api.RunOn, 0, 0, 4, 1},
		{api.RunOn, 0, 2, 10, 10},
		{api.RunOff, 2500, -149, 10, 2},
		{api.RunOff, 2500, -150, 10, 1},
		{api.RunOff, 2500, -2 * api.RunWind, 10, 1},
		{api.RunOff, 2500, 2 * api.RunWind, 10, 3300},
	} {
		if n, e := run.Length(c, one.kind, one.weight, one.along, one.wave); e != api.OK || n != one.run {
			t.Error(i, one, n, e)
		}
	}
	if n, e := run.Length(exampleCraft(), api.RunOn, 10, 3, 10); e != api.OK || n != 515 {
		t.Error(n, e)
	}
	// the longest of all
	if n, e := run.Length(widestCrafts()[1], api.RunOff, api.RunWeight, 600, 0); e != api.OK || n != 130000 {
		t.Error(n, e)
	}
}

// runIn returns the run of an aircraft, from the words of the chapter.
func runIn(c api.Craft, rows []api.RunRow, weight, along, wave int) int {
	metres, _ := sayOf(rows, weight)
	metres *= 1000
	if wave < c.Glass {
		metres = metres / 1000 * c.GlassBy
	}
	if wave > c.Rough {
		metres = metres / 1000 * c.RoughBy
	}
	metres = roundedUp(metres, 1000)
	if along > 0 {
		metres += c.Tail * along
	} else {
		metres -= c.Head * -along
	}
	return max(1, metres)
}

func rowsFor(c api.Craft, k api.RunKind) []api.RunRow {
	if k == api.RunOn {
		return c.On
	}
	return c.Off
}

// TestBounds checks P3.1 (Bounds).
func TestBounds(t *testing.T) {
	c := exampleCraft()
	for i, one := range []struct {
		weight, along, wave, want api.Span
	}{
		{span(2400, 2600), span(-20, 10), span(3, 10), span(260, 596)},
		{exactly(2600), exactly(0), span(0, 4), exactly(546)},
		{exactly(2600), exactly(0), span(41, 80), exactly(504)},
		{exactly(2600), exactly(0), span(0, 100), span(420, 546)},
		{exactly(2600), exactly(0), span(4, 5), span(420, 546)},
		{exactly(2600), exactly(0), span(40, 41), span(420, 504)},
		{span(0, 3500), span(-600, 600), span(0, 2000), span(1, 3780)},
	} {
		if s, e := run.Bounds(c, api.RunOff, one.weight, one.along, one.wave); e != api.OK || s != one.want {
			t.Error(i, s, e)
		}
	}
	// neither waves of the span are so, but one between them
	c.Glass, c.Rough = 10, 10
	if s, e := run.Bounds(c, api.RunOff, exactly(2600), exactly(0), span(9, 11)); e != api.OK || s != span(420, 546) {
		t.Error(s, e)
	}
}

// TestBoundsSmall checks P3.1: each run lies within the bounds, and both are attained.
func TestBoundsSmall(t *testing.T) {
	r := newRandom()
	for i := range 2000 {
		c := smallCraft(r)
		k := api.RunOff + api.RunKind(r.IntN(2))
		rows := rowsFor(c, k)
		weight, along, wave := part(r, span(0, toldWeight(r, rows))), part(r, span(-6, 6)), part(r, span(0, 10))
		want := span(1<<40, 0)
		for w := weight.Low; w <= weight.High; w++ {
			for a := along.Low; a <= along.High; a++ {
				for v := wave.Low; v <= wave.High; v++ {
					truth := runIn(c, rows, w, a, v)
					want = span(min(want.Low, truth), max(want.High, truth))
					if n, e := run.Length(c, k, w, a, v); e != api.OK || n != truth {
						t.Fatal(i, c, k, w, a, v, n, e, truth)
					}
				}
			}
		}
		if s, e := run.Bounds(c, k, weight, along, wave); e != api.OK || s != want {
			t.Fatal(i, c, k, weight, along, wave, s, e, want)
		}
	}
}

// TestRunErrors checks the errors of P3.1 and P3.2 (Length, Bounds and Heaviest).
func TestRunErrors(t *testing.T) {
	try := func(c api.Craft, k api.RunKind, weight, along, wave api.Span, want api.Errno) {
		t.Helper()
		if s, e := run.Bounds(c, k, weight, along, wave); e != want || s != (api.Span{}) {
			t.Error(s, e)
		}
		if weight == exactly(weight.Low) && along == exactly(along.Low) && wave == exactly(wave.Low) {
			if n, e := run.Length(c, k, weight.Low, along.Low, wave.Low); e != want || n != 0 {
				t.Error(n, e)
			}
		}
		if weight == (api.Span{}) {
			if n, e := run.Heaviest(c, k, api.RunMetres, along, wave); e != want || n != 0 {
				t.Error(n, e)
			}
		}
	}
	c, zero := exampleCraft(), api.Span{}
	for _, bad := range badCrafts() {
		try(bad, api.RunOff, zero, zero, zero, api.ErrArg)
		try(bad, api.RunOn, zero, zero, zero, api.ErrArg)
	}
	for _, k := range []api.RunKind{-1, 0, 3} {
		try(c, k, zero, zero, zero, api.ErrArg)
	}
	for _, s := range []api.Span{span(1, 0), exactly(-1), span(-1, 0), exactly(api.RunWeight + 1), span(0, api.RunWeight+1)} {
		try(c, api.RunOff, s, zero, zero, api.ErrArg)
	}
	for _, s := range []api.Span{span(1, 0), exactly(-601), span(-601, 0), exactly(601), span(0, 601)} {
		try(c, api.RunOff, zero, s, zero, api.ErrArg)
	}
	for _, s := range []api.Span{span(1, 0), exactly(-1), span(-1, 0), exactly(api.RunWave + 1), span(0, api.RunWave+1)} {
		try(c, api.RunOff, zero, zero, s, api.ErrArg)
	}
	try(c, api.RunOff, exactly(3501), zero, zero, api.ErrRule)
	try(c, api.RunOff, span(0, 3501), zero, zero, api.ErrRule)
	try(c, api.RunOn, exactly(api.RunWeight), zero, zero, api.ErrRule)
	// what is not as defined comes first
	try(c, api.RunOff, exactly(3501), exactly(601), zero, api.ErrArg)
	try(c, api.RunOff, exactly(3501), zero, exactly(-1), api.ErrArg)
	for _, metres := range []int{-1, api.RunMetres + 1} {
		if n, e := run.Heaviest(c, api.RunOff, metres, zero, zero); e != api.ErrArg || n != 0 {
			t.Error(n, e)
		}
	}
}

// TestHeaviest checks P3.2.
func TestHeaviest(t *testing.T) {
	c := exampleCraft()
	for metres, want := range map[int]int{api.RunMetres: 3500, 830: 3500, 829: 3000, 600: 3000, 596: 3000, 595: 2500, 440: 2500} {
		if n, e := run.Heaviest(c, api.RunOff, metres, span(-20, 10), span(3, 10)); e != api.OK || n != want {
			t.Error(metres, n, e)
		}
	}
	for _, metres := range []int{0, 439} {
		if n, e := run.Heaviest(c, api.RunOff, metres, span(-20, 10), span(3, 10)); e != api.ErrRule || n != 0 {
			t.Error(metres, n, e)
		}
	}
	// the other table, one whose first row is of the weight 0, and rows of the same metres
	if n, e := run.Heaviest(c, api.RunOn, 500, exactly(0), exactly(10)); e != api.OK || n != 3500 {
		t.Error(n, e)
	}
	c.On = []api.RunRow{{Weight: 0, Metres: 5}, {Weight: 9, Metres: 6}, {Weight: 11, Metres: 6}}
	if n, e := run.Heaviest(c, api.RunOn, 5, exactly(0), exactly(10)); e != api.OK || n != 0 {
		t.Error(n, e)
	}
	if n, e := run.Heaviest(c, api.RunOn, 6, exactly(0), exactly(10)); e != api.OK || n != 11 {
		t.Error(n, e)
	}
	// no run is shorter than 1
	if n, e := run.Heaviest(c, api.RunOff, 0, exactly(-600), exactly(10)); e != api.ErrRule || n != 0 {
		t.Error(n, e)
	}
	if n, e := run.Heaviest(c, api.RunOff, 1, exactly(-600), exactly(10)); e != api.OK || n != 3500 {
		t.Error(n, e)
	}
}

// TestHeaviestSmall checks P3.2 against each weight: nothing heavier surely fits.
func TestHeaviestSmall(t *testing.T) {
	r := newRandom()
	found := 0
	for i := range 3000 {
		c := smallCraft(r)
		k := api.RunOff + api.RunKind(r.IntN(2))
		rows := rowsFor(c, k)
		metres, along, wave := r.IntN(40), part(r, span(-6, 6)), part(r, span(0, 10))
		want := -1
		for weight := range rows[len(rows)-1].Weight + 3 {
			if s, e := run.Bounds(c, k, exactly(weight), along, wave); e == api.OK && s.High <= metres {
				want = weight
			}
		}
		n, e := run.Heaviest(c, k, metres, along, wave)
		switch {
		case want < 0 && (e != api.ErrRule || n != 0), want >= 0 && (e != api.OK || n != want):
			t.Fatal(i, c, k, metres, along, wave, n, e, want)
		case want >= 0 && want < rows[len(rows)-1].Weight:
			found++
		}
	}
	if found < 200 {
		t.Error(found)
	}
}
