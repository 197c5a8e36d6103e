package water_test

import (
	"math/rand/v2"
	"slices"
	"testing"

	"windsock/api"
	"windsock/water"
)

// hasRun reports condition 1 by the definition, for the run at an offset.
func hasRun(s api.Sea, t api.Truth, p api.Strip, n api.Need, offset int) bool {
	if offset+n.Run > p.Cells {
		return false
	}
	dx, dy := stepOf(p.Way)
	for i := offset; i < offset+n.Run; i++ {
		x, y := p.X+i*dx, p.Y+i*dy
		if t.Depths[y*s.Wide+x]+t.Tide < n.Draught {
			return false
		}
		for k, b := range s.Boats {
			if t.Boats[k] && holds(b.X, x) && holds(b.Y, y) {
				return false
			}
		}
	}
	return true
}

// windIsFair reports condition 2 by the definition.
func windIsFair(p api.Strip, n api.Need, east, north int) bool {
	dx, dy := stepOf(p.Way)
	square := dx*dx + dy*dy
	cross, tail := east*dy-north*dx, east*dx+north*dy
	return cross*cross <= square*n.Cross*n.Cross && (tail <= 0 || tail*tail <= square*n.Tail*n.Tail)
}

// glares reports whether condition 4 is broken, by the definition.
func glares(s api.Sea, p api.Strip, minute int) bool {
	circle := []api.Compass{api.WaterN, api.WaterNE, api.WaterE, api.WaterSE, api.WaterS, api.WaterSW, api.WaterW, api.WaterNW}
	at := slices.Index(circle, p.Way)
	for _, g := range s.Glares {
		if holds(g.Times, minute) && (g.Way == p.Way || g.Way == circle[(at+1)%8] || g.Way == circle[(at+7)%8]) {
			return true
		}
	}
	return false
}

// usable reports whether a strip is usable in a truth, by the definition.
func usable(s api.Sea, t api.Truth, p api.Strip, n api.Need) bool {
	room := false
	for offset := range p.Cells {
		room = room || hasRun(s, t, p, n, offset)
	}
	return room && windIsFair(p, n, t.East, t.North) && n.Calm <= t.Wave && t.Wave <= n.Wave && t.Swell <= n.Swell && !glares(s, p, t.Minute)
}

// agreeing returns all truths of a minute that agree with a sea that has courses.
func agreeing(s api.Sea, minute int) []api.Truth {
	truths := []api.Truth{{Minute: minute, Depths: make([]int, len(s.Depths)), Boats: make([]bool, len(s.Boats))}}
	vary := func(values api.Span, set func(t *api.Truth, value int)) {
		var all []api.Truth
		for _, t := range truths {
			for value := values.Low; value <= values.High; value++ {
				t.Depths, t.Boats = slices.Clone(t.Depths), slices.Clone(t.Boats)
				set(&t, value)
				all = append(all, t)
			}
		}
		truths = all
	}
	for i, set := range []func(*api.Truth, int){
		func(t *api.Truth, x int) { t.Tide = x },
		func(t *api.Truth, x int) { t.East = x },
		func(t *api.Truth, x int) { t.North = x },
		func(t *api.Truth, x int) { t.Wave = x },
		func(t *api.Truth, x int) { t.Swell = x },
	} {
		low, high, _ := sweep(*gaugesOf(&s.Weather)[i])
		vary(span(low[minute], high[minute]), set)
	}
	for i, depth := range s.Depths {
		vary(depth, func(t *api.Truth, x int) { t.Depths[i] = x })
	}
	for i, b := range s.Boats {
		there := span(0, 1)
		switch {
		case !holds(b.Times, minute):
			there = span(0, 0)
		case b.Sure:
			there = span(1, 1)
		}
		vary(there, func(t *api.Truth, x int) { t.Boats[i] = x == 1 })
	}
	return truths
}

// TestUsable checks P1.4 (Usable), condition by condition.
func TestUsable(t *testing.T) {
	for i, x := range []struct {
		change func(*api.Truth)
		want   bool
	}{
		{func(*api.Truth) {}, true},
		// condition 1: 140 of water in two cells; from 0 on 165 and 210
		{func(t *api.Truth) { t.Tide = 30 }, true},
		{func(t *api.Truth) { t.Tide = 29 }, false},
		{func(t *api.Truth) { t.Depths[0] = 84 }, true},
		{func(t *api.Truth) { t.Depths[1] = 84 }, true},
		{func(t *api.Truth) { t.Depths[1], t.Depths[2] = 84, 84 }, false},
		{func(t *api.Truth) { t.Depths[1], t.Depths[2] = 84, 85 }, true},
		{func(t *api.Truth) { t.Boats[0] = true }, true},
		{func(t *api.Truth) { t.Depths[1], t.Boats[0] = 84, true }, false},
		{func(t *api.Truth) { t.Minute, t.Depths[1], t.Boats[0] = 900, 84, true }, false},
		{func(t *api.Truth) { t.Minute, t.Depths[1] = 650, 84 }, true},
		// condition 2: the strip leads to the east
		{func(t *api.Truth) { t.North = 15 }, true},
		{func(t *api.Truth) { t.North = 16 }, false},
		{func(t *api.Truth) { t.North = -15 }, true},
		{func(t *api.Truth) { t.North = -16 }, false},
		{func(t *api.Truth) { t.East = 30 }, true},
		{func(t *api.Truth) { t.East = 31 }, false},
		{func(t *api.Truth) { t.East = -api.WaterValue }, true},
		{func(t *api.Truth) { t.East = api.WaterValue }, false},
		{func(t *api.Truth) { t.North = api.WaterValue }, false},
		// condition 3
		{func(t *api.Truth) { t.Wave = 5 }, true},
		{func(t *api.Truth) { t.Wave = 4 }, false},
		{func(t *api.Truth) { t.Wave = 20 }, true},
		{func(t *api.Truth) { t.Wave = 21 }, false},
		{func(t *api.Truth) { t.Wave = -7 }, false},
		{func(t *api.Truth) { t.Swell = 20 }, true},
		{func(t *api.Truth) { t.Swell = 21 }, false},
		{func(t *api.Truth) { t.Swell = -api.WaterValue }, true},
		// condition 4
		{func(t *api.Truth) { t.Minute = 0 }, false},
		{func(t *api.Truth) { t.Minute = 100 }, false},
		{func(t *api.Truth) { t.Minute = 101 }, true},
		{func(t *api.Truth) { t.Minute = api.WaterDay }, true},
		// numbers that agree with nothing
		{func(t *api.Truth) { t.Tide = api.WaterValue }, true},
		{func(t *api.Truth) { t.Tide = -api.WaterValue }, false},
		{func(t *api.Truth) { t.Depths[3] = api.WaterValue }, true},
		{func(t *api.Truth) { t.Depths[3] = -api.WaterValue }, true},
	} {
		truth := exampleTruth()
		x.change(&truth)
		if is, e := water.Usable(exampleSea(), truth, exampleStrip(), exampleNeed()); e != api.OK || is != x.want {
			t.Error(i, is, e)
		}
	}
	// without wind from behind, and without wind across
	calm := exampleNeed()
	calm.Cross, calm.Tail = 0, 0
	for wind, want := range map[[2]int]bool{{0, 0}: true, {-1, 0}: true, {1, 0}: false, {0, 1}: false, {0, -1}: false} {
		truth := exampleTruth()
		truth.East, truth.North = wind[0], wind[1]
		if is, e := water.Usable(exampleSea(), truth, exampleStrip(), calm); e != api.OK || is != want {
			t.Error(wind, is, e)
		}
	}
	// a boat that is there in truth is so whatever its times are
	s := exampleSea()
	s.Glares, s.Boats = nil, []api.Boat{{X: span(0, 3), Times: span(5, 5)}}
	for _, minute := range []int{0, 4, 5, 6, api.WaterDay} {
		for _, there := range []bool{false, true} {
			truth := exampleTruth()
			truth.Minute, truth.Boats[0] = minute, there
			if is, e := water.Usable(s, truth, exampleStrip(), exampleNeed()); e != api.OK || is == there {
				t.Error(minute, there, is, e)
			}
		}
	}
	long := exampleNeed()
	long.Run = 5
	if is, e := water.Usable(exampleSea(), exampleTruth(), exampleStrip(), long); e != api.OK || is {
		t.Error("a run that is longer than its strip", is, e)
	}
}

// TestBadTruths checks the ErrArg of P1.4 (Usable).
func TestBadTruths(t *testing.T) {
	changes := []func(*api.Truth){
		func(t *api.Truth) { t.Minute = -1 },
		func(t *api.Truth) { t.Minute = api.WaterDay + 1 },
		func(t *api.Truth) { t.Depths = t.Depths[:3] },
		func(t *api.Truth) { t.Depths = append(t.Depths, 100) },
		func(t *api.Truth) { t.Depths = nil },
		func(t *api.Truth) { t.Boats = nil },
		func(t *api.Truth) { t.Boats = []bool{false, false} },
	}
	for _, x := range []int{-api.WaterValue - 1, api.WaterValue + 1} {
		changes = append(changes,
			func(t *api.Truth) { t.Tide = x },
			func(t *api.Truth) { t.East = x },
			func(t *api.Truth) { t.North = x },
			func(t *api.Truth) { t.Wave = x },
			func(t *api.Truth) { t.Swell = x },
			func(t *api.Truth) { t.Depths[0] = x },
			func(t *api.Truth) { t.Depths[3] = x },
		)
	}
	for i, change := range changes {
		truth := exampleTruth()
		change(&truth)
		if is, e := water.Usable(exampleSea(), truth, exampleStrip(), exampleNeed()); is || e != api.ErrArg {
			t.Error(i, is, e)
		}
	}
}

// TestUsableByDefinition checks P1.4 (Usable) against the definition.
func TestUsableByDefinition(t *testing.T) {
	r := newRandom()
	count := 0
	for i := range 4000 {
		s := smallSea(r)
		p, n := smallStrip(r, s.Chart), smallNeed(r)
		truth := api.Truth{Minute: r.IntN(api.WaterDay + 1), Tide: r.IntN(5), East: r.IntN(15) - 7, North: r.IntN(15) - 7, Wave: r.IntN(6), Swell: r.IntN(5)}
		for range s.Depths {
			truth.Depths = append(truth.Depths, r.IntN(6))
		}
		for range s.Boats {
			truth.Boats = append(truth.Boats, r.IntN(2) == 0)
		}
		is, e := water.Usable(s, truth, p, n)
		if want := usable(s, truth, p, n); e != api.OK || is != want {
			t.Fatal(i, is, want, e)
		}
		if is {
			count++
		}
	}
	if count < 100 || count > 3900 {
		t.Error(count)
	}
}

// runOf returns the first run that is good in all truths, or -1.
func runOf(s api.Sea, truths []api.Truth, p api.Strip, n api.Need) int {
	for offset := range p.Cells {
		if !slices.ContainsFunc(truths, func(t api.Truth) bool { return !hasRun(s, t, p, n, offset) }) {
			return offset
		}
	}
	return -1
}

// TestSureInAllTruths checks P1.4 (Sure, Possible) against all truths that agree with a sea.
func TestSureInAllTruths(t *testing.T) {
	r := newRandom()
	seen := map[string]int{}
	for i := range 1500 {
		s := smallSea(r)
		p, n := smallStrip(r, s.Chart), smallNeed(r)
		minute := r.IntN(api.WaterDay + 1)
		truths := agreeing(s, minute)
		is := func(t api.Truth) bool { return usable(s, t, p, n) }
		isNot := func(t api.Truth) bool { return !is(t) }
		sure, possible := !slices.ContainsFunc(truths, isNot), slices.ContainsFunc(truths, is)
		offset, e := water.Sure(s, p, n, minute)
		switch {
		case sure && (e != api.OK || offset != runOf(s, truths, p, n)):
			t.Fatal(i, offset, e)
		case !sure && (e != api.ErrRule || offset != 0):
			t.Fatal(i, offset, e)
		}
		if maybe, e := water.Possible(s, p, n, minute); e != api.OK || maybe != possible {
			t.Fatal(i, maybe, possible, e)
		}
		switch {
		case sure:
			seen["sure"]++
		case possible:
			seen["possible"]++
		default:
			seen["neither"]++
		}
		if sure && offset > 0 {
			seen["offset"]++
		}
	}
	for _, what := range []string{"sure", "possible", "neither", "offset"} {
		if seen[what] < 10 {
			t.Error(what, seen)
		}
	}
}

// windsWithin returns whether all winds, and whether some winds, are fair.
func windsWithin(east, north api.Span, p api.Strip, n api.Need) (bool, bool) {
	all, some := true, false
	for e := east.Low; e <= east.High; e++ {
		for k := north.Low; k <= north.High; k++ {
			if windIsFair(p, n, e, k) {
				some = true
			} else {
				all = false
			}
		}
	}
	return all, some
}

func randomWind(r *rand.Rand, strong int) api.Gauge {
	bounds := part(r, span(-strong, strong), 1+r.IntN(strong))
	return api.Gauge{Least: bounds.Low, Most: bounds.High}
}

// TestWinds checks P1.4: all winds, and some wind, between bounds.
func TestWinds(t *testing.T) {
	r := newRandom()
	seen := map[api.Compass][3]int{}
	for i := range 60000 {
		s := stillSea(1, 1, 0)
		strong := 2 + r.IntN(8)
		if i%16 < 8 {
			strong = 50
		}
		s.East, s.North = randomWind(r, strong), randomWind(r, strong)
		p := api.Strip{Way: api.Compass(1 + i%8), Cells: 1}
		n := easyNeed(1)
		n.Cross, n.Tail = r.IntN(1+r.IntN(strong)), r.IntN(1+r.IntN(strong))
		all, some := windsWithin(span(s.East.Least, s.East.Most), span(s.North.Least, s.North.Most), p, n)
		if _, e := water.Sure(s, p, n, 300); (e == api.OK) != all {
			t.Fatal(i, s.East, s.North, p, n, all, e)
		}
		if is, e := water.Possible(s, p, n, 300); e != api.OK || is != some {
			t.Fatal(i, s.East, s.North, p, n, some, e)
		}
		count := seen[p.Way]
		switch {
		case all:
			count[0]++
		case some:
			count[1]++
		default:
			count[2]++
		}
		seen[p.Way] = count
	}
	for way, count := range seen {
		if slices.Min(count[:]) < 10 {
			t.Error(way, count)
		}
	}
}

// TestDiagonalWind checks P1.4: squares of winds along and across diagonals.
func TestDiagonalWind(t *testing.T) {
	// along a diagonal 10 and 10 have the square 400, which is between twice 14 squared and twice 15 squared
	for tail, want := range map[int]api.Errno{14: api.ErrRule, 15: api.OK} {
		s := stillSea(2, 2, 0)
		s.East, s.North = api.Gauge{Least: 10, Most: 10}, api.Gauge{Least: 10, Most: 10}
		n := easyNeed(2)
		n.Tail = tail
		if _, e := water.Sure(s, api.Strip{Way: api.WaterNE, Cells: 2}, n, 0); e != want {
			t.Error(tail, e)
		}
		n = easyNeed(2)
		n.Cross = tail
		if _, e := water.Sure(s, api.Strip{X: 1, Way: api.WaterNW, Cells: 2}, n, 0); e != want {
			t.Error(tail, e)
		}
	}
}

// TestSure checks P1.4 (Sure, Possible) with the sea of the chapter.
func TestSure(t *testing.T) {
	for i, x := range []struct {
		change   func(*api.Need)
		offset   int
		want     api.Errno
		possible bool
	}{
		{func(*api.Need) {}, 0, api.OK, true},
		{func(n *api.Need) { n.Draught, n.Run = 200, 1 }, 1, api.OK, true},
		{func(n *api.Need) { n.Draught, n.Run = 201, 1 }, 3, api.OK, true},
		{func(n *api.Need) { n.Draught, n.Run = 350, 1 }, 3, api.OK, true},
		{func(n *api.Need) { n.Draught, n.Run = 351, 1 }, 0, api.ErrRule, true},
		{func(n *api.Need) { n.Draught, n.Run = 360, 1 }, 0, api.ErrRule, true},
		{func(n *api.Need) { n.Draught, n.Run = 361, 1 }, 0, api.ErrRule, false},
		{func(n *api.Need) { n.Draught = 150 }, 0, api.OK, true},
		{func(n *api.Need) { n.Draught = 151 }, 0, api.ErrRule, true},
		{func(n *api.Need) { n.Draught = 260 }, 0, api.ErrRule, true},
		{func(n *api.Need) { n.Draught = 261 }, 0, api.ErrRule, false},
		{func(n *api.Need) { n.Run = 4 }, 0, api.OK, true},
		{func(n *api.Need) { n.Run = 5 }, 0, api.ErrRule, false},
		{func(n *api.Need) { n.Calm = 6 }, 0, api.ErrRule, true},
		{func(n *api.Need) { n.Wave = 19 }, 0, api.ErrRule, true},
		{func(n *api.Need) { n.Calm, n.Wave = 0, 5 }, 0, api.ErrRule, true},
		{func(n *api.Need) { n.Calm, n.Wave = 0, 4 }, 0, api.ErrRule, false},
		{func(n *api.Need) { n.Calm, n.Wave = 20, 30 }, 0, api.ErrRule, true},
		{func(n *api.Need) { n.Calm, n.Wave = 21, 30 }, 0, api.ErrRule, false},
		{func(n *api.Need) { n.Swell = 10 }, 0, api.OK, true},
		{func(n *api.Need) { n.Swell = 9 }, 0, api.ErrRule, true},
		{func(n *api.Need) { n.Swell = 0 }, 0, api.ErrRule, true},
		{func(n *api.Need) { n.Tail = 29 }, 0, api.ErrRule, true},
		{func(n *api.Need) { n.Tail = 0 }, 0, api.ErrRule, true},
		{func(n *api.Need) { n.Cross = 10 }, 0, api.OK, true},
		{func(n *api.Need) { n.Cross = 9 }, 0, api.ErrRule, true},
	} {
		n := exampleNeed()
		x.change(&n)
		if o, e := water.Sure(exampleSea(), exampleStrip(), n, 300); o != x.offset || e != x.want {
			t.Error(i, o, e)
		}
		if is, e := water.Possible(exampleSea(), exampleStrip(), n, 300); is != x.possible || e != api.OK {
			t.Error(i, is, e)
		}
	}
}

// TestBoats checks P1.4: boats that are there surely, and perhaps.
func TestBoats(t *testing.T) {
	deep := exampleNeed()
	deep.Draught, deep.Run = 350, 1
	for _, sure := range []bool{false, true} {
		s := exampleSea()
		s.Boats[0].Sure = sure
		for minute, there := range map[int]bool{599: false, 600: true, 700: true, 701: false} {
			if _, e := water.Sure(s, exampleStrip(), deep, minute); (e == api.ErrRule) != there {
				t.Error(sure, minute, e)
			}
			if is, e := water.Possible(s, exampleStrip(), deep, minute); e != api.OK || is != (!there || !sure) {
				t.Error(sure, minute, is, e)
			}
		}
	}
	// in a rectangle of cells, to its edges
	s := stillSea(5, 5, 10)
	s.Boats = []api.Boat{{X: span(1, 3), Y: span(2, 3), Times: span(0, api.WaterDay)}}
	for cell := range 25 {
		x, y := cell%5, cell/5
		_, e := water.Sure(s, api.Strip{X: x, Y: y, Way: api.WaterN, Cells: 1}, easyNeed(1), 300)
		if there := x >= 1 && x <= 3 && y >= 2 && y <= 3; (e == api.ErrRule) != there {
			t.Error(x, y, e)
		}
	}
}

// TestWays checks P1.4: the cells of a strip in each direction.
func TestWays(t *testing.T) {
	// only the cells that lie from the middle in some direction are deep
	for way := api.WaterN; way <= api.WaterNW; way++ {
		s := stillSea(5, 5, 0)
		dx, dy := stepOf(way)
		for i := range 3 {
			s.Depths[(2+i*dy)*5+2+i*dx] = span(100, 100)
		}
		n := easyNeed(3)
		n.Draught = 100
		for other := api.WaterN; other <= api.WaterNW; other++ {
			_, e := water.Sure(s, api.Strip{X: 2, Y: 2, Way: other, Cells: 3}, n, 0)
			if (e == api.OK) != (way == other) {
				t.Error(way, other, e)
			}
		}
	}
}

// TestGlares checks P1.4: glares in a direction, and beside it.
func TestGlares(t *testing.T) {
	for way := range 8 {
		for glare := range 8 {
			s := stillSea(1, 1, 0)
			s.Glares = []api.Glare{{Way: api.WaterN + api.Compass(glare), Times: span(300, 301)}}
			p := api.Strip{Way: api.WaterN + api.Compass(way), Cells: 1}
			apart := (way - glare + 8) % 8
			for minute, within := range map[int]bool{299: false, 300: true, 301: true, 302: false} {
				want := within && (apart == 0 || apart == 1 || apart == 7)
				if _, e := water.Sure(s, p, easyNeed(1), minute); (e == api.ErrRule) != want {
					t.Error(way, glare, minute, e)
				}
				if is, e := water.Possible(s, p, easyNeed(1), minute); e != api.OK || is == want {
					t.Error(way, glare, minute, is, e)
				}
			}
		}
	}
}
