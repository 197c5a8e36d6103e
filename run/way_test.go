package run_test

import (
	"cmp"
	"slices"
	"testing"

	"windsock/api"
	"windsock/run"
)

// course is a way: its cells, and its length.
type course struct {
	cells  []int
	length int
}

// better reports whether a way is better than another one; any is better than none.
func (c course) better(other course) bool {
	return other.cells == nil || cmp.Or(
		cmp.Compare(c.length, other.length),
		cmp.Compare(len(c.cells), len(other.cells)),
		slices.Compare(c.cells, other.cells)) < 0
}

// firstCourse returns the best of all lists through open cells by steps of which none is longer
// than so much; no cells, if there is none.
func firstCourse(l api.Land, from, to, longest int, open func(cell int) bool) course {
	var best course
	var walk func(c course)
	walk = func(c course) {
		last := c.cells[len(c.cells)-1]
		if !open(last) {
			return
		}
		if last == to {
			if c.better(best) {
				best = c
			}
			return
		}
		for _, next := range neighbours(l, last) {
			if length := lengthOf(l, last, next); length <= longest && !slices.Contains(c.cells, next) {
				walk(course{append(slices.Clone(c.cells), next), c.length + length})
			}
		}
	}
	walk(course{cells: []int{from}})
	return best
}

// openAt returns the cells through which a way at a height leads.
func openAt(l api.Land, needs []int, height int) func(cell int) bool {
	return func(cell int) bool { return l.Ground[cell]+l.Clear <= height && needs[cell] <= height }
}

// hill returns a map with a hill in its south, and usable water everywhere.
func hill() api.Land { return carvedTo(flat(3, 2, 0, 1, 2, 3, 4, 5), 1, 900, 0) }

// loop returns a map with two ways from the cell 4 to the cell 124 that have one length: the
// first one in lexicographic order has more cells.
func loop() (api.Land, []int) {
	cell := func(x, y int) int { return y*api.RunGrid + x }
	var west, east []int
	for x := range 4 {
		west = append(west, cell(x, 0), cell(x, 10))
	}
	for y := 1; y <= 9; y++ {
		west = append(west, cell(0, y))
	}
	west = slices.DeleteFunc(west, func(at int) bool { return at == cell(0, 0) || at == cell(0, 10) })
	for y, x := range []int{4, 5, 8, 9, 10, 9, 8, 7, 6, 5, 4} {
		east = append(east, cell(x, y))
		switch y {
		case 1:
			east = append(east, cell(6, 0), cell(7, 1))
		}
	}
	l := carved(api.RunGrid, api.RunGrid, 900, append(west, east...)...)
	l.Water = slices.Repeat([]bool{true}, len(l.Ground))
	return l, east
}

// TestWay checks P3.6 (Way).
func TestWay(t *testing.T) {
	c, m, a := exampleCraft(), exampleLand(), exampleAir()
	for i, one := range []struct {
		land             api.Land
		from, to, height int
		want             []int
		length           int
	}{
		{m, 2, 0, 400, []int{2, 1, 0}, 20},
		{m, 0, 2, 400, []int{0, 1, 2}, 20},
		{m, 2, 0, 350, []int{2, 1, 0}, 20},
		{m, 2, 0, 349, nil, 0},
		{m, 3, 0, 490, []int{3, 2, 1, 0}, 30},
		{m, 3, 0, 489, nil, 0},
		{m, 0, 3, 489, nil, 0},
		{m, 0, 0, 50, []int{0}, 0},
		{m, 0, 0, 49, nil, 0},
		{m, 1, 1, 150, []int{1}, 0},
		{m, 1, 1, 149, nil, 0},
		{hill(), 0, 2, 100, []int{0, 4, 2}, 28},
		{hill(), 0, 2, 899, []int{0, 4, 2}, 28},
		{hill(), 0, 2, 900, []int{0, 1, 2}, 20},
		{hill(), 0, 1, 899, nil, 0},
		{hill(), 1, 0, 899, nil, 0},
		// two of one length with as many cells: the first one in lexicographic order
		{hill(), 0, 5, 0, []int{0, 4, 5}, 24},
		{hill(), 5, 0, 0, []int{5, 4, 0}, 24},
		{hill(), 0, 5, 900, []int{0, 1, 5}, 24},
		{hill(), 5, 0, 900, []int{5, 1, 0}, 24},
	} {
		l, n, e := run.Way(c, one.land, a, 3000, one.from, one.to, one.height)
		if e != errorIfNone(one.want) || n != one.length || !slices.Equal(l, one.want) {
			t.Error(i, l, n, e)
		}
	}
	if l, n, e := run.Way(exampleTwin(), m, a, 3000, 3, 0, 380); e != api.OK || n != 30 || !slices.Equal(l, []int{3, 2, 1, 0}) {
		t.Error(l, n, e)
	}
}

// TestWayCells checks P3.6 (Way): of ways of one length, the one with the fewest cells is best.
func TestWayCells(t *testing.T) {
	l, east := loop()
	want := []int{4, 17, 6, 19, 32, 45, 58, 69, 80, 91, 102, 113, 124}
	if slices.Sort(east); !slices.Equal(east, slices.Sorted(slices.Values(want))) {
		t.Fatal(east)
	}
	c := exampleCraft()
	if cells, n, e := run.Way(c, l, api.Air{}, 0, 4, 124, 0); e != api.OK || n != 168 || !slices.Equal(cells, want) {
		t.Error(cells, n, e)
	}
	// without it, the other one is as long
	l.Ground[58] = 900
	if cells, n, e := run.Way(c, l, api.Air{}, 0, 4, 124, 0); e != api.OK || n != 168 || len(cells) != 17 {
		t.Error(cells, n, e)
	}
}

// TestLowest checks P3.6 (Lowest).
func TestLowest(t *testing.T) {
	c, m, a := exampleCraft(), exampleLand(), exampleAir()
	for i, one := range []struct {
		craft    api.Craft
		land     api.Land
		from, to int
		want     int
	}{
		{c, m, 3, 0, 490}, {c, m, 0, 3, 490}, {c, m, 2, 0, 350}, {c, m, 1, 0, 150}, {c, m, 0, 0, 50}, {c, m, 3, 3, 490},
		{exampleTwin(), m, 3, 0, 380},
		{c, hill(), 0, 2, 0}, {c, hill(), 0, 1, 900}, {c, hill(), 1, 1, 900},
	} {
		if n, e := run.Lowest(one.craft, one.land, a, 3000, one.from, one.to); e != api.OK || n != one.want {
			t.Error(i, n, e)
		}
	}
	dry := exampleLand()
	dry.Water[0] = false
	for to := range 4 {
		if n, e := run.Lowest(c, dry, a, 3000, 3, to); e != api.ErrNone || n != 0 {
			t.Error(n, e)
		}
	}
	// as high as can be asked about, and 1 metre more
	high := flat(2, 1, 0, 1)
	high.Ground[1], high.Clear = api.RunMetres-7, 7
	if n, e := run.Lowest(c, high, a, 0, 0, 1); e != api.OK || n != api.RunMetres {
		t.Error(n, e)
	}
	high.Clear = 8
	if n, e := run.Lowest(c, high, a, 0, 0, 1); e != api.ErrNone || n != 0 {
		t.Error(n, e)
	}
	if n, e := run.Lowest(c, high, a, 0, 0, 0); e != api.OK || n != 8 {
		t.Error(n, e)
	}
}

// TestWaysSmall checks P3.6 against all lists of cells: none that somebody proposes is better, in
// each cell there is an escape, and one metre below the lowest height there is no way.
func TestWaysSmall(t *testing.T) {
	r := newRandom()
	found, longest := 0, 0
	for i := range 600 {
		c, l, a := smallCraft(r), smallLand(r), smallAir(r)
		weight, from, to := toldWeight(r, c.Ceilings), r.IntN(len(l.Ground)), r.IntN(len(l.Ground))
		needs, _ := run.Needs(c, l, a, weight)
		lowest, e := run.Lowest(c, l, a, weight, from, to)
		if (e == api.OK) != slices.Contains(l.Water, true) || e != api.OK && e != api.ErrNone {
			t.Fatal(i, c, l, a, weight, from, to, lowest, e)
		}
		heights := []int{r.IntN(150), lowest}
		if lowest > 0 {
			heights = append(heights, lowest-1)
		}
		for _, height := range heights {
			want := firstCourse(l, from, to, 14, openAt(l, needs, height))
			if (want.cells != nil) != (e == api.OK && height >= lowest) {
				t.Fatal(i, c, l, a, weight, from, to, height, lowest, e, want)
			}
			cells, n, e := run.Way(c, l, a, weight, from, to, height)
			if e != errorIfNone(want.cells) || n != want.length || !slices.Equal(cells, want.cells) {
				t.Fatal(i, c, l, a, weight, from, to, height, cells, n, e, want)
			}
			for _, cell := range cells {
				if _, e := run.Escape(c, l, a, weight, cell, height); e != api.OK {
					t.Fatal(i, c, l, a, weight, from, to, height, cell, e)
				}
				found++
			}
			longest = max(longest, len(cells))
		}
	}
	if found < 500 || longest < 5 {
		t.Error(found, longest)
	}
}

// shortest returns the length of the best way, and the fewest cells of such a way, from lengths
// that are lowered until they are settled; less than 0, if there is none.
func shortest(l api.Land, from, to, longest int, open func(cell int) bool) (int, int) {
	const many, none = 1000, 1 << 40
	ranks := slices.Repeat([]int{none}, len(l.Ground))
	if open(from) {
		ranks[from] = 1
	}
	for changed := true; changed; {
		changed = false
		for cell, rank := range ranks {
			for _, next := range neighbours(l, cell) {
				if step := lengthOf(l, cell, next); step <= longest && open(cell) && ranks[next] < none {
					rank = min(rank, ranks[next]+step*many+1)
				}
			}
			changed = changed || rank < ranks[cell]
			ranks[cell] = rank
		}
	}
	if ranks[to] == none {
		return -1, 0
	}
	return ranks[to] / many, ranks[to] % many
}

// checkCourse checks that a way is one, as good as can be.
func checkCourse(t *testing.T, l api.Land, from, to, longest int, open func(cell int) bool, got course, e api.Errno) {
	t.Helper()
	length, cells := shortest(l, from, to, longest, open)
	if length < 0 {
		if e != api.ErrNone || got.cells != nil || got.length != 0 {
			t.Fatal(l, from, to, got, e)
		}
		return
	}
	if e != api.OK || got.length != length || len(got.cells) != cells || got.cells[0] != from || got.cells[cells-1] != to {
		t.Fatal(l, from, to, got, e, length, cells)
	}
	sum := 0
	for i, cell := range got.cells {
		if i > 0 {
			step := lengthOf(l, got.cells[i-1], cell)
			sum += step
			if step > longest || !slices.Contains(neighbours(l, cell), got.cells[i-1]) {
				t.Fatal(l, from, to, got)
			}
		}
		if !open(cell) || slices.Contains(got.cells[:i], cell) {
			t.Fatal(l, from, to, got)
		}
	}
	if sum != length {
		t.Fatal(l, from, to, got, sum)
	}
}

// TestWaysOnGreatMaps checks P3.6 (Way).
func TestWaysOnGreatMaps(t *testing.T) {
	r := newRandom()
	longest := 0
	for range 300 {
		c, l, a := smallCraft(r), anyLand(r, 5+r.IntN(8), 5+r.IntN(8), 3, 300), smallAir(r)
		weight, from, to, height := toldWeight(r, c.Ceilings), r.IntN(len(l.Ground)), r.IntN(len(l.Ground)), r.IntN(350)
		l.Ground[from], l.Ground[to] = 0, 0
		needs, _ := run.Needs(c, l, a, weight)
		cells, n, e := run.Way(c, l, a, weight, from, to, height)
		checkCourse(t, l, from, to, 14, openAt(l, needs, height), course{cells, n}, e)
		longest = max(longest, len(cells))
	}
	if longest < 10 {
		t.Error(longest)
	}
}

// TestWayErrors checks the errors of P3.6.
func TestWayErrors(t *testing.T) {
	try := func(c api.Craft, l api.Land, a api.Air, weight, from, to, height int, want api.Errno) {
		t.Helper()
		if l, n, e := run.Way(c, l, a, weight, from, to, height); e != want || n != 0 || l != nil {
			t.Error(l, n, e)
		}
		if height != 0 {
			return
		}
		if n, e := run.Lowest(c, l, a, weight, from, to); e != want || n != 0 {
			t.Error(n, e)
		}
	}
	c, d, m, a := exampleCraft(), exampleTwin(), exampleLand(), exampleAir()
	for _, bad := range badCrafts() {
		try(bad, m, a, 0, 0, 0, 0, api.ErrArg)
	}
	for _, bad := range badLands() {
		try(c, bad, a, 0, 0, 0, 0, api.ErrArg)
	}
	for _, bad := range badAirs() {
		try(c, m, bad, 0, 0, 0, 0, api.ErrArg)
	}
	for _, weight := range []int{-1, api.RunWeight + 1} {
		try(c, m, a, weight, 0, 0, 0, api.ErrArg)
	}
	for _, cell := range []int{-1, 4} {
		try(c, m, a, 0, cell, 0, 0, api.ErrArg)
		try(c, m, a, 0, 0, cell, 0, api.ErrArg)
		try(d, m, a, 4001, 0, cell, 0, api.ErrArg)
	}
	for _, height := range []int{-1, api.RunMetres + 1} {
		try(c, m, a, 0, 0, 0, height, api.ErrArg)
		try(d, m, a, 4001, 0, 0, height, api.ErrArg)
	}
	try(d, m, a, 4001, 3, 0, 0, api.ErrRule)
	try(d, m, a, 4001, 3, 0, 400, api.ErrRule)
	m.Water[0] = false
	try(d, m, a, 4000, 3, 0, 0, api.ErrNone)
}

// TestTaxi checks P3.7.
func TestTaxi(t *testing.T) {
	block := flat(3, 2, 0, 1, 2, 3, 4, 5)
	ring := flat(3, 3, 0, 1, 2, 3, 5, 6, 7, 8)
	for i, one := range []struct {
		land     api.Land
		from, to int
		want     []int
	}{
		{block, 0, 5, []int{0, 1, 2, 5}},
		{block, 5, 0, []int{5, 2, 1, 0}},
		{block, 3, 2, []int{3, 0, 1, 2}},
		{block, 4, 4, []int{4}},
		{flat(3, 2, 0, 2, 3, 4, 5), 0, 5, []int{0, 3, 4, 5}},
		{flat(3, 2, 0, 2, 3, 5), 0, 5, nil},
		// no diagonal steps
		{flat(2, 2, 0, 3), 0, 3, nil},
		{flat(2, 2, 0, 1, 3), 0, 3, []int{0, 1, 3}},
		{ring, 0, 8, []int{0, 1, 2, 5, 8}},
		{ring, 8, 0, []int{8, 5, 2, 1, 0}},
		{ring, 1, 7, []int{1, 0, 3, 6, 7}},
		// neither end may be dry
		{flat(3, 1, 0, 1), 0, 2, nil},
		{flat(3, 1, 1, 2), 0, 2, nil},
		{flat(1, 1), 0, 0, nil},
		{flat(1, 1, 0), 0, 0, []int{0}},
	} {
		if l, e := run.Taxi(one.land, one.from, one.to); e != errorIfNone(one.want) || !slices.Equal(l, one.want) {
			t.Error(i, l, e)
		}
	}
	// heights do not matter
	l := carved(2, 1, api.RunMetres)
	l.Clear, l.Water[0], l.Water[1] = api.RunMetres, true, true
	if cells, e := run.Taxi(l, 1, 0); e != api.OK || !slices.Equal(cells, []int{1, 0}) {
		t.Error(cells, e)
	}
}

// TestTaxiSmall checks P3.7 against all lists of cells.
func TestTaxiSmall(t *testing.T) {
	r := newRandom()
	longest := 0
	for range 2000 {
		l := flat(3+r.IntN(2), 3+r.IntN(2))
		for cell := range l.Water {
			l.Water[cell] = r.IntN(4) > 0
		}
		from, to := r.IntN(len(l.Water)), r.IntN(len(l.Water))
		want := firstCourse(l, from, to, 10, func(cell int) bool { return l.Water[cell] })
		cells, e := run.Taxi(l, from, to)
		if e != errorIfNone(want.cells) || !slices.Equal(cells, want.cells) {
			t.Fatal(l, from, to, cells, e, want)
		}
		longest = max(longest, len(cells))
	}
	if longest < 7 {
		t.Error(longest)
	}
	for range 300 {
		l := flat(12, 12)
		for cell := range l.Water {
			l.Water[cell] = r.IntN(3) > 0
		}
		from, to := r.IntN(len(l.Water)), r.IntN(len(l.Water))
		cells, e := run.Taxi(l, from, to)
		checkCourse(t, l, from, to, 10, func(cell int) bool { return l.Water[cell] }, course{cells, 10 * max(0, len(cells)-1)}, e)
	}
}

// TestTaxiErrors checks the errors of P3.7.
func TestTaxiErrors(t *testing.T) {
	try := func(l api.Land, from, to int) {
		t.Helper()
		if l, e := run.Taxi(l, from, to); e != api.ErrArg || l != nil {
			t.Error(l, e)
		}
	}
	for _, bad := range badLands() {
		try(bad, 0, 0)
	}
	for _, cell := range []int{-1, 4} {
		try(exampleLand(), cell, 0)
		try(exampleLand(), 0, cell)
	}
}
