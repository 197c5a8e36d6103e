package watch

import (
	"slices"

	"windsock/api"
)

// search is a sky in which some cells are searched.
type search struct {
	api.Sky
	cells []int
}

// spot is a cell to which a search has come, and which cells were searched by then, as bits.
type spot struct {
	cell int
	done int
}

// at returns the spot to which one comes in a cell when some cells were searched before.
func (s search) at(cell, done int) spot {
	for i := range len(s.cells) {
		if s.cells[i] == cell {
			done |= 1 << i
		}
	}
	return spot{cell, done}
}

// best returns the best search from a cell, and whether there is any. Spots are looked at in the
// order of the best searches that lead to them, so the first one with all cells ends the best.
func (s search) best(from int) ([]int, bool) {
	all := 1<<len(s.cells) - 1
	spots := []spot{s.at(from, 0)}
	before := map[spot]int{spots[0]: -1}
looking:
	for i := 0; spots[len(spots)-1].done != all; i++ {
		if i == len(spots) {
			return nil, false
		}
		for cell := range neighbours(s.Sky, spots[i].cell) {
			next := s.at(cell, spots[i].done)
			if _, known := before[next]; known {
				continue
			}
			before[next] = i
			spots = append(spots, next)
			if next.done == all {
				break looking
			}
		}
	}
	return trail(spots, before), true
}

// trail returns the cells that lead to the last one of some spots, if it is known which spot comes
// before each of them.
func trail(spots []spot, before map[spot]int) []int {
	var cells []int
	for i := len(spots) - 1; i >= 0; i = before[spots[i]] {
		cells = append(cells, spots[i].cell)
	}
	slices.Reverse(cells)
	return cells
}
