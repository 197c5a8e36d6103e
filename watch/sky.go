package watch

import (
	"iter"
	"maps"
	"slices"

	"windsock/api"
)

// neighbours returns the free neighbours of a cell, in increasing order.
func neighbours(s api.Sky, cell int) iter.Seq[int] {
	x, y := cell%s.Wide, cell/s.Wide
	return func(yield func(int) bool) {
		for north := max(0, y-1); north <= min(s.Deep-1, y+1); north++ {
			for east := max(0, x-1); east <= min(s.Wide-1, x+1); east++ {
				other := north*s.Wide + east
				if other != cell && !s.Shut[other] && !yield(other) {
					return
				}
			}
		}
	}
}

func distance(s api.Sky, one, other int) int {
	east, north := other%s.Wide-one%s.Wide, other/s.Wide-one/s.Wide
	return max(east, -east, north, -north)
}

// behind returns all that comes next to something of a set.
func behind[T comparable](set map[T]bool, next func(T) iter.Seq[T]) map[T]bool {
	all := make(map[T]bool, len(set))
	for one := range set {
		for other := range next(one) {
			all[other] = true
		}
	}
	return all
}

// picked returns the cells that are picked of a set, in increasing order.
func picked[T comparable](set map[T]bool, pick func(T) (int, bool)) []int {
	var cells []int
	for one := range set {
		if cell, is := pick(one); is {
			cells = append(cells, cell)
		}
	}
	slices.Sort(cells)
	return cells
}

// reach returns the cells to which one can go in some steps or fewer. No way without a cell twice
// has as many steps as there are cells.
func reach(s api.Sky, cell, steps int) []int {
	cells := map[int]bool{cell: true}
	for range min(steps, len(s.Shut)) {
		maps.Copy(cells, behind(cells, func(cell int) iter.Seq[int] { return neighbours(s, cell) }))
	}
	return picked(cells, func(cell int) (int, bool) { return cell, true })
}
