package run_test

import (
	"math/rand/v2"
	"slices"

	"windsock/api"
)

func span(low, high int) api.Span { return api.Span{Low: low, High: high} }

func exactly(x int) api.Span { return span(x, x) }

// newRandom returns numbers that are the same in each run.
func newRandom() *rand.Rand { return rand.New(rand.NewPCG(31, 38)) }

// within returns a number of a span.
func within(r *rand.Rand, s api.Span) int { return s.Low + r.IntN(s.High-s.Low+1) }

// part returns a span within a span.
func part(r *rand.Rand, s api.Span) api.Span {
	low := within(r, s)
	return span(low, within(r, span(low, s.High)))
}

// exampleCraft is the aircraft c of the chapter.
func exampleCraft() api.Craft {
	return api.Craft{
		Off:   []api.RunRow{{Weight: 2500, Metres: 300}, {Weight: 3000, Metres: 420}, {Weight: 3500, Metres: 600}},
		On:    []api.RunRow{{Weight: 3500, Metres: 500}},
		Glass: 5, Rough: 40, GlassBy: 1300, RoughBy: 1200, Head: 2, Tail: 5,
		Engines: 1, Fall: 100, Drag: 2,
		Ceilings: []api.RunRow{{Weight: 3000, Metres: 200}, {Weight: 4000, Metres: 120}}, Sink: 30,
	}
}

// exampleTwin is the aircraft d of the chapter.
func exampleTwin() api.Craft {
	d := exampleCraft()
	d.Engines = 2
	return d
}

// exampleLand is the map m of the chapter.
func exampleLand() api.Land {
	return api.Land{Wide: 4, Deep: 1, Ground: []int{0, 100, 300, 0}, Water: []bool{true, false, false, false}, Clear: 50}
}

// exampleAir is the wind a of the chapter.
func exampleAir() api.Air { return api.Air{East: span(-10, 20)} }

// widestAir is all wind that can be.
func widestAir() api.Air {
	wind := span(-api.RunWind, api.RunWind)
	return api.Air{East: wind, North: wind}
}

func copyOfCraft(c api.Craft) api.Craft {
	c.Off, c.On, c.Ceilings = slices.Clone(c.Off), slices.Clone(c.On), slices.Clone(c.Ceilings)
	return c
}

func copyOfLand(l api.Land) api.Land {
	l.Ground, l.Water = slices.Clone(l.Ground), slices.Clone(l.Water)
	return l
}

// flat returns a map without hills, with usable water in some cells.
func flat(wide, deep int, water ...int) api.Land {
	l := api.Land{Wide: wide, Deep: deep, Ground: make([]int, wide*deep), Water: make([]bool, wide*deep)}
	for _, cell := range water {
		l.Water[cell] = true
	}
	return l
}

// carved returns a map that is high everywhere but in some cells.
func carved(wide, deep, high int, low ...int) api.Land {
	l := flat(wide, deep)
	for cell := range l.Ground {
		l.Ground[cell] = high
	}
	for _, cell := range low {
		l.Ground[cell] = 0
	}
	return l
}

// smallTable returns a table of few rows, whose metres rise or fall.
func smallTable(r *rand.Rand, most int, rises bool) []api.RunRow {
	var rows []api.RunRow
	weight := 0
	for range 1 + r.IntN(4) {
		weight += 1 + r.IntN(5)
		rows = append(rows, api.RunRow{Weight: weight - r.IntN(2), Metres: 0})
	}
	var metres []int
	for range rows {
		metres = append(metres, r.IntN(most+1))
	}
	slices.Sort(metres)
	if !rises {
		slices.Reverse(metres)
	}
	for i := range rows {
		rows[i].Metres = metres[i]
		if i > 0 {
			rows[i].Weight = max(rows[i].Weight, rows[i-1].Weight+1)
		}
	}
	return rows
}

// smallCraft returns an aircraft of small numbers.
func smallCraft(r *rand.Rand) api.Craft {
	waves := part(r, span(0, 8))
	return api.Craft{
		Off: smallTable(r, 20, true), On: smallTable(r, 20, true),
		Glass: waves.Low, Rough: waves.High, GlassBy: 1000 + r.IntN(1500), RoughBy: 1000 + r.IntN(1500),
		Head: r.IntN(4), Tail: r.IntN(4), Engines: 1 + r.IntN(2), Fall: 1 + r.IntN(25), Drag: r.IntN(4),
		Ceilings: smallTable(r, 50, false), Sink: r.IntN(25),
	}
}

// toldWeight returns a weight of which a table says something.
func toldWeight(r *rand.Rand, rows []api.RunRow) int { return r.IntN(rows[len(rows)-1].Weight + 1) }

// anyLand returns a map of some size, with water in about one of so many cells.
func anyLand(r *rand.Rand, wide, deep, oneOf, high int) api.Land {
	l := flat(wide, deep)
	l.Clear = r.IntN(high/3 + 1)
	for cell := range l.Ground {
		l.Ground[cell] = r.IntN(high + 1)
		if r.IntN(3) == 0 {
			l.Ground[cell] = 0
		}
		l.Water[cell] = r.IntN(oneOf) == 0
	}
	return l
}

// smallLand returns a map of at most nine cells.
func smallLand(r *rand.Rand) api.Land {
	sizes := [][2]int{{1, 1}, {1, 5}, {5, 1}, {2, 3}, {3, 2}, {4, 2}, {2, 4}, {3, 3}, {3, 3}}
	size := sizes[r.IntN(len(sizes))]
	return anyLand(r, size[0], size[1], 5, 40)
}

func smallAir(r *rand.Rand) api.Air {
	return api.Air{East: part(r, span(-5, 5)), North: part(r, span(-5, 5))}
}

// sayOf returns what a table says of a weight.
func sayOf(rows []api.RunRow, weight int) (int, bool) {
	for _, row := range rows {
		if weight <= row.Weight {
			return row.Metres, true
		}
	}
	return 0, false
}

// neighbours returns the cells next to a cell, in increasing order.
func neighbours(l api.Land, cell int) []int {
	var cells []int
	for other := range l.Wide * l.Deep {
		if east, north := apart(l, cell, other); other != cell && east*east <= 1 && north*north <= 1 {
			cells = append(cells, other)
		}
	}
	return cells
}

// apart returns how far a cell is from another one, towards the east and the north.
func apart(l api.Land, from, to int) (int, int) {
	return to%l.Wide - from%l.Wide, to/l.Wide - from/l.Wide
}

// lengthOf returns the length of a step.
func lengthOf(l api.Land, from, to int) int {
	if east, north := apart(l, from, to); east != 0 && north != 0 {
		return 14
	}
	return 10
}

// roundedUp returns a quotient, rounded up.
func roundedUp(number, by int) int {
	if number%by != 0 {
		return number/by + 1
	}
	return number / by
}

// lostIn returns the height lost in a step in a wind.
func lostIn(c api.Craft, l api.Land, from, to, east, north int) int {
	dx, dy := apart(l, from, to)
	return max(1, roundedUp(c.Fall*lengthOf(l, from, to), 10)-c.Drag*(east*dx+north*dy))
}

// mostLost returns the greatest height lost in a step.
func mostLost(c api.Craft, l api.Land, a api.Air, from, to int) int {
	most := 0
	for _, east := range []int{a.East.Low, a.East.High} {
		for _, north := range []int{a.North.Low, a.North.High} {
			most = max(most, lostIn(c, l, from, to, east, north))
		}
	}
	return most
}

// leftOf returns what is left of a height after a step, in the worst case.
func leftOf(c api.Craft, l api.Land, a api.Air, weight, from, to, height int) int {
	if c.Engines == 1 {
		return height - mostLost(c, l, a, from, to)
	}
	ceiling, _ := sayOf(c.Ceilings, weight)
	if height <= ceiling {
		return height
	}
	return max(ceiling, height-roundedUp(c.Sink*lengthOf(l, from, to), 10))
}

// floorOf returns the least height that an escape may have in a cell.
func floorOf(l api.Land, cell int) int {
	if l.Water[cell] {
		return l.Ground[cell]
	}
	return l.Ground[cell] + l.Clear
}

// isEscape reports whether a list of cells is an escape at a height.
func isEscape(c api.Craft, l api.Land, a api.Air, weight, height int, cells []int) bool {
	for i, cell := range cells {
		if i > 0 {
			if !slices.Contains(neighbours(l, cells[i-1]), cell) {
				return false
			}
			height = leftOf(c, l, a, weight, cells[i-1], cell, height)
		}
		if height < floorOf(l, cell) || l.Water[cell] != (i == len(cells)-1) {
			return false
		}
	}
	return len(cells) > 0
}

// trial is a list of cells, and the height that is left at its end.
type trial struct {
	cells  []int
	height int
}

// firstEscape returns the best escape, found among all lists without a cell twice; nothing, if
// there is none.
func firstEscape(c api.Craft, l api.Land, a api.Air, weight, cell, height int) []int {
	var trials []trial
	if height >= floorOf(l, cell) {
		trials = append(trials, trial{[]int{cell}, height})
	}
	for len(trials) > 0 {
		var longer []trial
		for _, one := range trials {
			last := one.cells[len(one.cells)-1]
			if l.Water[last] {
				return one.cells
			}
			for _, to := range neighbours(l, last) {
				left := leftOf(c, l, a, weight, last, to, one.height)
				if left >= floorOf(l, to) && !slices.Contains(one.cells, to) {
					longer = append(longer, trial{append(slices.Clone(one.cells), to), left})
				}
			}
		}
		trials = longer
	}
	return nil
}

// settledNeeds returns what cells need, from heights that are lowered until they are settled.
func settledNeeds(c api.Craft, l api.Land, a api.Air, weight int) []int {
	needs := make([]int, len(l.Ground))
	for cell := range needs {
		needs[cell] = api.RunNever
		if l.Water[cell] {
			needs[cell] = l.Ground[cell]
		}
	}
	ceiling, _ := sayOf(c.Ceilings, weight)
	for changed := true; changed; {
		changed = false
		for cell, need := range needs {
			for _, to := range neighbours(l, cell) {
				before := needs[to]
				switch {
				case l.Water[cell] || before == api.RunNever:
					continue
				case c.Engines == 1:
					before += mostLost(c, l, a, cell, to)
				case before > ceiling:
					before += roundedUp(c.Sink*lengthOf(l, cell, to), 10)
				}
				need = min(need, max(before, l.Ground[cell]+l.Clear))
			}
			changed = changed || need < needs[cell]
			needs[cell] = need
		}
	}
	return needs
}
