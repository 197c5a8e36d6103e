package run

import (
	"cmp"
	"iter"
	"maps"
	"slices"

	"windsock/api"
)

// courses are the steps of the directions: towards the east and towards the north.
var courses = [...][2]int{{0, 1}, {1, 1}, {1, 0}, {1, -1}, {0, -1}, {-1, -1}, {-1, 0}, {-1, 1}}

// The lengths of steps.
const (
	straight = 10
	diagonal = 14
)

// step goes from a cell to a neighbour, towards the east and towards the north.
type step struct {
	from  int
	to    int
	east  int
	north int
}

// stepTowards returns a step in a direction, wherever it is.
func stepTowards(way api.Compass) step {
	course := courses[way-api.WaterN]
	return step{east: course[0], north: course[1]}
}

func (s step) length() int {
	if s.east != 0 && s.north != 0 {
		return diagonal
	}
	return straight
}

// back returns the step that goes the other way.
func (s step) back() step {
	return step{from: s.to, to: s.from, east: -s.east, north: -s.north}
}

// grid is the cells of a map.
type grid struct {
	api.Land
}

// steps returns the steps from a cell, in the order of the cells to which they go.
func (g grid) steps(cell int) iter.Seq[step] {
	x, y := cell%g.Wide, cell/g.Wide
	return func(yield func(step) bool) {
		for north := -1; north <= 1; north++ {
			for east := -1; east <= 1; east++ {
				on := holds(span(0, g.Wide-1), x+east) && holds(span(0, g.Deep-1), y+north)
				s := step{from: cell, to: cell + north*g.Wide + east, east: east, north: north}
				if on && s.from != s.to && !yield(s) {
					return
				}
			}
		}
	}
}

// waiting is a cell that waits, and what it needs as far as is known.
type waiting struct {
	cell int
	need int
}

// queue is where cells wait. The one that needs least is taken first.
type queue interface {
	put(w waiting)
	take() (waiting, bool)
}

// line is a queue in which the cell that is taken next stands at the end.
type line []waiting

func (l *line) put(w waiting) {
	at, _ := slices.BinarySearchFunc(*l, w, func(a, b waiting) int {
		return cmp.Or(cmp.Compare(b.need, a.need), cmp.Compare(b.cell, a.cell))
	})
	*l = slices.Insert(*l, at, w)
}

func (l *line) take() (waiting, bool) {
	last := len(*l) - 1
	if last < 0 {
		return waiting{}, false
	}
	w := (*l)[last]
	*l = (*l)[:last]
	return w, true
}

// rule returns what is needed ahead of a step if so much is needed after it, and whether the
// step is allowed. It never is less than after it.
type rule func(s step, after int) (int, bool)

// lower keeps what a cell needs if it is less than was known, and reports whether it is.
func lower(known map[int]int, cell, need int) bool {
	before, is := known[cell]
	if is && before <= need {
		return false
	}
	known[cell] = need
	return true
}

// spread returns the least that cells need so that steps lead to one of those at an end, of
// which it is known. A cell that is taken needs no less than those taken before it, so that
// nothing better is found for it later.
func (g grid) spread(ends map[int]int, ahead rule) map[int]int {
	known := maps.Clone(ends)
	var cells queue = &line{}
	for cell, need := range ends {
		cells.put(waiting{cell, need})
	}
	for next, some := cells.take(); some; next, some = cells.take() {
		if next.need > known[next.cell] {
			continue // it waits twice, and was taken before
		}
		for s := range g.steps(next.cell) {
			s = s.back()
			need, allowed := ahead(s, next.need)
			if allowed && lower(known, s.from, need) {
				cells.put(waiting{s.from, need})
			}
		}
	}
	return known
}
