package dock

import (
	"iter"
	"math/bits"
	"slices"

	"windsock/api"
)

// pull returns the pull of ropes in a direction.
func pull(x, y int, ropes ...api.DockRope) int {
	sum := 0
	for _, r := range ropes {
		sum += r.Strength * max(0, x*r.X+y*r.Y)
	}
	return sum
}

// fail reports whether ropes fail at a force in a direction.
func fail(b api.DockBreak, ropes ...api.DockRope) bool {
	return -(b.X*b.ForceX + b.Y*b.ForceY) > pull(b.X, b.Y, ropes...)
}

// pair is a force or a direction.
type pair struct {
	x, y int
}

// directions returns the directions that are looked at.
func directions(ropes ...api.DockRope) []pair {
	var list []pair
	for _, r := range ropes {
		list = append(list, pair{-r.Y, r.X}, pair{r.Y, -r.X}, pair{r.X, r.Y}, pair{-r.X, -r.Y})
	}
	return append(list, pair{1, 0}, pair{-1, 0}, pair{0, 1}, pair{0, -1})
}

// breaks returns where ropes can fail at a wind: its corners, each with all directions that are looked at.
func breaks(wind api.DockWind, ropes ...api.DockRope) iter.Seq[api.DockBreak] {
	x, y := wind.X, wind.Y
	corners := [...]pair{{x.Low, y.Low}, {x.Low, y.High}, {x.High, y.Low}, {x.High, y.High}}
	return func(yield func(api.DockBreak) bool) {
		for _, force := range corners {
			for _, direction := range directions(ropes...) {
				if !yield(api.DockBreak{ForceX: force.x, ForceY: force.y, X: direction.x, Y: direction.y}) {
					return
				}
			}
		}
	}
}

// firstBreak returns where ropes fail first at a wind, and whether they do.
func firstBreak(wind api.DockWind, ropes ...api.DockRope) (api.DockBreak, bool) {
	return first(breaks(wind, ropes...), func(b api.DockBreak) bool { return fail(b, ropes...) })
}

func ropesHold(wind api.DockWind, ropes ...api.DockRope) bool {
	_, found := firstBreak(wind, ropes...)
	return !found
}

// without returns all ropes but one.
func without(rope int, ropes ...api.DockRope) []api.DockRope {
	return slices.Concat(ropes[:rope], ropes[rope+1:])
}

// kept returns the numbers of ropes that are not left out, and these ropes. The last rope is the
// lowest bit of those that are left out.
func kept(out int, ropes ...api.DockRope) ([]int, []api.DockRope) {
	var indexes []int
	var list []api.DockRope
	for i, r := range ropes {
		if out>>(len(ropes)-1-i)&1 == 0 {
			indexes, list = append(indexes, i), append(list, r)
		}
	}
	return indexes, list
}

// fewest returns the first set of as few ropes as possible that hold a wind, and whether there is
// any. Of sets of one size, the first one leaves out the least number of bits.
func fewest(wind api.DockWind, ropes ...api.DockRope) (set []int, found bool) {
looking:
	for size := range len(ropes) + 1 {
		for out := range 1 << len(ropes) {
			if bits.OnesCount(uint(out)) != len(ropes)-size {
				continue
			}
			indexes, list := kept(out, ropes...)
			if ropesHold(wind, list...) {
				set, found = indexes, true
				break looking
			}
		}
	}
	return set, found
}
