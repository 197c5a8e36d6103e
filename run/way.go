package run

// ranked is by how much a length counts more than a cell: more than a way has cells.
const ranked = 1000

// trail returns the first way in lexicographic order from a cell to the one that needs nothing,
// along the steps that need all that is known.
func (g grid) trail(known map[int]int, cell int, ahead rule) []int {
	cells := []int{cell}
trail:
	for known[cell] > 0 {
		for s := range g.steps(cell) {
			after, is := known[s.to]
			if need, allowed := ahead(s, after); is && allowed && need == known[cell] {
				cell = s.to
				cells = append(cells, cell)
				continue trail
			}
		}
	}
	return cells
}

// best returns the best way through cells that are open, by steps that are allowed, its length,
// and whether there is any.
func (g grid) best(from, to int, open func(cell int) bool, allowed func(s step) bool) ([]int, int, bool) {
	if !open(to) {
		return nil, 0, false
	}
	ahead := func(s step, after int) (int, bool) {
		return after + s.length()*ranked + 1, open(s.from) && allowed(s)
	}
	known := g.spread(map[int]int{to: 0}, ahead)
	rank, found := known[from]
	if !found {
		return nil, 0, false
	}
	return g.trail(known, from, ahead), rank / ranked, true
}

// levels returns the least heights at which ways lead through cells.
func (f *flight) levels() []int {
	levels := f.needs()
	for cell, need := range levels {
		levels[cell] = max(need, f.clear(cell))
	}
	return levels
}

func (f *flight) way(from, to, height int) ([]int, int, bool) {
	levels := f.levels()
	open := func(cell int) bool { return levels[cell] <= height }
	return f.best(from, to, open, func(step) bool { return true })
}

func (f *flight) lowest(from, to int) int {
	levels := f.levels()
	known := f.spread(map[int]int{to: levels[to]}, func(s step, after int) (int, bool) {
		return max(after, levels[s.from]), true
	})
	return known[from]
}

func (g grid) taxi(from, to int) ([]int, bool) {
	open := func(cell int) bool { return g.Water[cell] }
	cells, _, found := g.best(from, to, open, func(s step) bool { return s.length() == straight })
	return cells, found
}
