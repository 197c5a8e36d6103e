package watch_test

import (
	"math/rand/v2"
	"slices"
	"testing"

	"windsock/api"
	"windsock/watch"
)

// isSearch reports whether a list is a search of cells from a cell.
func isSearch(s api.Sky, from int, cells, list []int) bool {
	for i, cell := range list {
		if i == 0 && cell != from || i > 0 && !slices.Contains(nextTo(s, list[i-1]), cell) {
			return false
		}
	}
	for _, cell := range cells {
		if !slices.Contains(list, cell) {
			return false
		}
	}
	return len(list) > 0
}

// shortestSearch returns the first one of the shortest searches, found among all lists; nothing, if
// none has at most so many cells.
func shortestSearch(s api.Sky, from int, cells []int, most int) []int {
	lists := [][]int{{from}}
	for range most {
		var longer [][]int
		for _, list := range lists {
			if isSearch(s, from, cells, list) {
				return list
			}
			for _, cell := range nextTo(s, list[len(list)-1]) {
				longer = append(longer, append(slices.Clone(list), cell))
			}
		}
		lists = longer
	}
	return nil
}

// tour tells how many steps a search takes at least, by the order in which it comes to cells.
type tour struct {
	steps [][]int
	known map[[2]int]int
}

func newTour(s api.Sky) *tour {
	t := &tour{make([][]int, len(s.Shut)), map[[2]int]int{}}
	for cell, shut := range s.Shut {
		if !shut {
			t.steps[cell] = stepsFrom(s, cell)
		}
	}
	return t
}

// least returns how many steps it takes to come from a cell to all of some others, whose indexes
// are the bits of a number.
func (t *tour) least(from int, cells []int, left int) int {
	key := [2]int{from, left}
	if n, is := t.known[key]; is {
		return n
	}
	least := 1 << 30
	if left == 0 {
		least = 0
	}
	for i, cell := range cells {
		if left>>i&1 == 1 {
			least = min(least, t.steps[from][cell]+t.least(cell, cells, left&^(1<<i)))
		}
	}
	t.known[key] = least
	return least
}

// first returns the first one of the shortest searches, cell by cell.
func (t *tour) first(s api.Sky, from int, cells []int) []int {
	list, left := []int{from}, without(cells, 1<<len(cells)-1, from)
	for need := t.least(from, cells, left); need > 0; need-- {
		next := nextTo(s, list[len(list)-1])
		at := slices.IndexFunc(next, func(cell int) bool { return t.least(cell, cells, without(cells, left, cell)) == need-1 })
		list = append(list, next[at])
		left = without(cells, left, next[at])
	}
	return list
}

// without returns a set of indexes without those of a cell.
func without(cells []int, left, cell int) int {
	for i, other := range cells {
		if other == cell {
			left &^= 1 << i
		}
	}
	return left
}

// randomCells returns cells to which one can go from a cell; some of them can be the same.
func randomCells(r *rand.Rand, s api.Sky, from, most int) []int {
	near := cellsWithin(s, from, len(s.Shut))
	var cells []int
	for range r.IntN(most + 1) {
		cells = append(cells, near[r.IntN(len(near))])
	}
	return cells
}

// TestSweep checks P5.5.
func TestSweep(t *testing.T) {
	for i, one := range []struct {
		sky   api.Sky
		from  int
		cells []int
		want  []int
	}{
		{exampleSky(), 0, []int{7, 4}, []int{0, 4, 1, 2, 7}},
		{exampleSky(), 0, []int{4, 7}, []int{0, 4, 1, 2, 7}},
		{exampleSky(), 0, nil, []int{0}},
		{exampleSky(), 3, []int{3, 3}, []int{3}},
		{exampleSky(), 6, []int{0}, []int{6, 1, 0}},
		{exampleSky(), 0, []int{6}, []int{0, 1, 6}},
		{exampleSky(), 1, []int{6, 0}, []int{1, 0, 1, 6}},
		{exampleSky(), 1, []int{0, 6, 0, 6, 1, 1, 6, 0}, []int{1, 0, 1, 6}},
		{exampleSky(), 1, []int{0, 2}, []int{1, 0, 1, 2}},
		{openSky(1, 1), 0, []int{0}, []int{0}},
		// of equal ones the first, which need not come first to the nearest cell
		{openSky(3, 1), 1, []int{0, 2}, []int{1, 0, 1, 2}},
		{openSky(3, 3), 4, []int{8, 0}, []int{4, 0, 4, 8}},
		{openSky(3, 3), 4, []int{8, 6, 2, 0}, []int{4, 0, 1, 2, 4, 6, 4, 8}},
		{openSky(5, 2), 0, []int{4}, []int{0, 1, 2, 3, 4}},
		{openSky(5, 2), 5, []int{4}, []int{5, 1, 2, 3, 4}},
		{openSky(2, 2), 0, []int{3, 2, 1, 0}, []int{0, 1, 2, 3}},
	} {
		if l, e := watch.Sweep(one.sky, one.from, one.cells); e != api.OK || !slices.Equal(l, one.want) {
			t.Error(i, l, e)
		}
	}
	for i, one := range []struct {
		sky   api.Sky
		cells []int
	}{
		{openSky(3, 1, 1), []int{2}}, {openSky(3, 1, 1), []int{0, 2}}, {openSky(3, 2, 1, 4), []int{3, 5}}, {openSky(3, 2, 1, 4), []int{2}},
	} {
		if l, e := watch.Sweep(one.sky, 0, one.cells); e != api.ErrNone || l != nil {
			t.Error(i, l, e)
		}
	}
}

// TestSweepSmall checks P5.5 with all searches of small skies.
func TestSweepSmall(t *testing.T) {
	r := newRandom()
	long := 0
	for i := range 3000 {
		s := randomSky(r, 1+r.IntN(5), 1+r.IntN(3))
		from := randomFree(r, s)
		cells := randomCells(r, s, from, 4)
		want := shortestSearch(s, from, cells, 7)
		l, e := watch.Sweep(s, from, cells)
		if want == nil {
			if e != api.OK || len(l) <= 7 {
				t.Fatal(i, s, from, cells, l, e)
			}
			continue
		}
		if e != api.OK || !slices.Equal(l, want) {
			t.Fatal(i, s, from, cells, l, e, want)
		}
		if len(want) > 4 {
			long++
		}
	}
	if long < 200 {
		t.Error(long)
	}
}

// TestSweepLarge checks P5.5 with the orders in which cells can be come to.
func TestSweepLarge(t *testing.T) {
	r := newRandom()
	skies := []api.Sky{winding(), openSky(12, 12)}
	for range 60 {
		skies = append(skies, randomSky(r, 5+r.IntN(8), 5+r.IntN(8)))
	}
	none := 0
	for i, s := range skies {
		for range 3 {
			from := randomFree(r, s)
			cells := randomCells(r, s, from, api.WatchSweep)
			l, e := watch.Sweep(s, from, cells)
			if want := newTour(s).first(s, from, cells); e != api.OK || !slices.Equal(l, want) || !isSearch(s, from, cells, l) {
				t.Fatal(i, s, from, cells, l, e, want)
			}
			cells = append(cells[:min(len(cells), api.WatchSweep-1)], randomFree(r, s))
			if stepsFrom(s, from)[cells[len(cells)-1]] >= 0 {
				continue
			}
			none++
			if l, e := watch.Sweep(s, from, cells); e != api.ErrNone || l != nil {
				t.Fatal(i, s, from, cells, l, e)
			}
		}
	}
	if none < 5 {
		t.Error(none)
	}
}

// TestSweepErrors checks the errors of P5.5.
func TestSweepErrors(t *testing.T) {
	fails := func(i int, s api.Sky, from int, cells []int, want api.Errno) {
		t.Helper()
		if l, e := watch.Sweep(s, from, cells); e != want || l != nil {
			t.Error(i, l, e)
		}
	}
	for i, s := range badSkies() {
		fails(i, s, 0, nil, api.ErrArg)
		fails(i, s, 0, []int{0}, api.ErrArg)
		fails(i, s, -1, make([]int, 9), api.ErrLong)
	}
	for i, bad := range []int{-1, 8, 5} {
		fails(i, exampleSky(), bad, nil, api.ErrArg)
		fails(i, exampleSky(), 0, []int{1, bad}, api.ErrArg)
	}
	fails(0, exampleSky(), 0, make([]int, 9), api.ErrLong)
	// a cell that cannot be searched comes before one to which one cannot go
	fails(1, openSky(3, 1, 1), 0, []int{2, 1}, api.ErrArg)
}
