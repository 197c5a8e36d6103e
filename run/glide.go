package run

import (
	"slices"

	"windsock/api"
)

// stopped is an aircraft that is looked at in wind, when one of its engines has stopped.
type stopped struct {
	api.Craft
	api.Air
	ceiling int // matters with two engines alone
}

// loss returns the bounds of the height lost in a step with one engine. The wind from ahead is
// strongest, and weakest, at corners of its bounds.
func (a *stopped) loss(s step) api.Span {
	still := divideUp(a.Fall*s.length(), 10)
	var losses []int
	for _, east := range [...]int{a.East.Low, a.East.High} {
		for _, north := range [...]int{a.North.Low, a.North.High} {
			losses = append(losses, max(1, still-a.Drag*(east*s.east+north*s.north)))
		}
	}
	return around(losses...)
}

// left returns what is left of a height after a step, in the worst case.
func (a *stopped) left(height int, s step) int {
	ways := [...]func(int, step) int{a.leftOfNone, a.leftOfOne}
	return ways[a.Engines-1](height, s)
}

func (a *stopped) leftOfNone(height int, s step) int { return height - a.loss(s).High }

func (a *stopped) leftOfOne(height int, s step) int {
	if height <= a.ceiling {
		return height
	}
	return max(a.ceiling, height-divideUp(a.Sink*s.length(), 10))
}

// flight is an aircraft over a map, when one of its engines has stopped.
type flight struct {
	stopped
	grid
}

// flightOf returns a flight with a weight, and whether the table says a ceiling that matters.
func flightOf(c api.Craft, l api.Land, a api.Air, weight int) (*flight, bool) {
	ceiling, says := told(c.Ceilings, weight)
	return &flight{stopped{c, a, ceiling}, grid{l}}, says || c.Engines == 1
}

// flightAt returns a flight, or the error of what is asked about it. A height of 0 stands for
// none that is asked about.
func flightAt(c api.Craft, l api.Land, a api.Air, weight, height int, cells ...int) (*flight, api.Errno) {
	if !craftFine(c) || !landFine(l) || !airFine(a) || !weightsFine(exactly(weight)) || !metresFine(height) || !cellsFine(l, cells...) {
		return nil, api.ErrArg
	}
	f, says := flightOf(c, l, a, weight)
	if !says {
		return nil, api.ErrRule
	}
	return f, api.OK
}

// clear returns the least height that is clear of the ground of a cell.
func (f *flight) clear(cell int) int { return f.Ground[cell] + f.Clear }

// ends returns the cells on which escapes end, with the heights that they need.
func (f *flight) ends() map[int]int {
	ends := map[int]int{}
	for cell, water := range f.Water {
		if water {
			ends[cell] = f.Ground[cell]
		}
	}
	return ends
}

// ahead is the rule of escapes, which have no step from usable water. Most is lost in a step far
// above all ceilings, so the height needed is that after the step, or more by all of this.
func (f *flight) ahead(s step, after int) (int, bool) {
	if f.Water[s.from] {
		return 0, false
	}
	most := api.RunNever - f.left(api.RunNever, s)
	height, _ := first([]int{after, after + most}, func(height int) bool { return f.left(height, s) >= after })
	return max(height, f.clear(s.from)), true
}

// needs returns what each cell needs. Eleven steps lead to any cell of a map, so that no need
// comes up to that of a map without water.
func (f *flight) needs() []int {
	needs := slices.Repeat([]int{api.RunNever}, len(f.Ground))
	for cell, need := range f.spread(f.ends(), f.ahead) {
		needs[cell] = need
	}
	return needs
}

// escape returns the best escape, and whether there is any. It looks at escapes with one cell
// more each time, until one of them can be flown from the height.
func (f *flight) escape(cell, height int) ([]int, bool) {
	if f.needs()[cell] > height {
		return nil, false
	}
	var shorter []map[int]int
	needs := f.ends()
	for {
		if need, is := needs[cell]; is && need <= height {
			return f.descent(cell, height, shorter), true
		}
		shorter = append(shorter, needs)
		needs = f.longer(needs)
	}
}

// longer returns the heights needed for escapes with one cell more than those of which the
// heights are known.
func (f *flight) longer(known map[int]int) map[int]int {
	needs := map[int]int{}
	for cell := range f.Ground {
		for s := range f.steps(cell) {
			after, is := known[s.to]
			if !is {
				continue
			}
			if need, allowed := f.ahead(s, after); allowed {
				lower(needs, cell, need)
			}
		}
	}
	return needs
}

// descent returns the first escape in lexicographic order that has one cell for each of the
// shorter ones, whose needs are known, and the first one.
func (f *flight) descent(cell, height int, shorter []map[int]int) []int {
	cells := []int{cell}
descent:
	for _, needs := range slices.Backward(shorter) {
		for s := range f.steps(cell) {
			left := f.left(height, s)
			if need, is := needs[s.to]; is && need <= left {
				cell, height = s.to, left
				cells = append(cells, cell)
				continue descent
			}
		}
	}
	return cells
}

// firstUnsafe returns the index of the first point of a leg that is not safe, each with a flight
// of its own; -1 if all are.
func firstUnsafe(flights []*flight, leg []api.Fix) int {
	known := map[int][]int{} // what cells need, by the ceiling
	for i, f := range flights {
		if known[f.ceiling] == nil {
			known[f.ceiling] = f.needs()
		}
		if leg[i].Height < known[f.ceiling][leg[i].Cell] {
			return i
		}
	}
	return -1
}
