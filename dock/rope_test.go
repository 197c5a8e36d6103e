package dock_test

import (
	"math/rand/v2"
	"slices"
	"testing"

	"windsock/api"
	"windsock/dock"
)

// pair is a force or a direction.
type pair struct{ x, y int }

func (p pair) minus(q pair) pair { return pair{p.x - q.x, p.y - q.y} }

func (p pair) times(q pair) int { return p.x*q.x + p.y*q.y }

// cross is greater than 0 if q is less than half a turn to the left of p.
func (p pair) cross(q pair) int { return p.x*q.y - p.y*q.x }

// cornersOf returns the corners of a wind, in their order.
func cornersOf(w api.DockWind) []pair {
	return []pair{{w.X.Low, w.Y.Low}, {w.X.Low, w.Y.High}, {w.X.High, w.Y.Low}, {w.X.High, w.Y.High}}
}

// endsOf returns the forces of ropes each of which pulls either not at all, or as strongly as it can.
// All forces that the ropes can have lie between these.
func endsOf(ropes []api.DockRope) []pair {
	ends := []pair{{}}
	for _, r := range ropes {
		for _, p := range ends {
			ends = append(ends, pair{p.x + r.Strength*r.X, p.y + r.Strength*r.Y})
		}
	}
	return ends
}

// isBetween reports whether a point lies between others, their borders included: it does not if
// all others are on less than half a turn around it, to the left of one of them.
func isBetween(p pair, others []pair) bool {
	leftOf := func(first pair) bool {
		return !slices.ContainsFunc(others, func(q pair) bool {
			v := q.minus(p)
			return first.cross(v) < 0 || first.cross(v) == 0 && first.times(v) <= 0
		})
	}
	return !slices.ContainsFunc(others, func(q pair) bool { return leftOf(q.minus(p)) })
}

// canHold reports whether there are tensions of ropes that hold a force.
func canHold(ropes []api.DockRope, force pair) bool {
	return isBetween(pair{-force.x, -force.y}, endsOf(ropes))
}

// canHoldAll reports whether ropes hold a wind: its forces lie between its corners.
func canHoldAll(ropes []api.DockRope, w api.DockWind) bool {
	ends := endsOf(ropes)
	return !slices.ContainsFunc(cornersOf(w), func(f pair) bool { return !isBetween(pair{-f.x, -f.y}, ends) })
}

// failIn reports whether ropes fail at a force in a direction.
func failIn(ropes []api.DockRope, force, direction pair) bool {
	pull := 0
	for _, r := range ropes {
		if along := direction.times(pair{r.X, r.Y}); along > 0 {
			pull += along * r.Strength
		}
	}
	return -direction.times(force) > pull
}

// lookedAt returns the directions that are looked at.
func lookedAt(ropes []api.DockRope) []pair {
	var all []pair
	for _, r := range ropes {
		along := pair{r.X, r.Y}
		left := pair{-along.y, along.x}
		all = append(all, left, pair{}.minus(left), along, pair{}.minus(along))
	}
	return append(all, pair{1, 0}, pair{-1, 0}, pair{0, 1}, pair{0, -1})
}

// breakOf returns the first corner of a wind at which ropes fail, and the first direction.
func breakOf(ropes []api.DockRope, w api.DockWind) api.DockBreak {
	for _, f := range cornersOf(w) {
		for _, d := range lookedAt(ropes) {
			if failIn(ropes, f, d) {
				return api.DockBreak{ForceX: f.x, ForceY: f.y, X: d.x, Y: d.y}
			}
		}
	}
	return api.DockBreak{}
}

// TestHoldExamples checks P6.2.
func TestHoldExamples(t *testing.T) {
	one := []api.DockRope{{X: 3, Y: 4, Strength: 10}}
	back := append(slices.Clone(one), api.DockRope{X: -6, Y: -8, Strength: 2})
	weak := []api.DockRope{{X: 3, Y: 4}}
	for i, one := range []struct {
		ropes []api.DockRope
		wind  api.DockWind
		want  api.DockBreak // zero if they hold
	}{
		{exampleRopes(), exampleWind(), api.DockBreak{}},
		{exampleRopes(), greaterWind(), api.DockBreak{ForceX: -400, ForceY: -301, Y: 10}},
		{exampleRopes(), windOf(span(-500, 500), span(-300, 300)), api.DockBreak{}},
		{exampleRopes(), windOf(span(-500, 501), span(-300, 300)), api.DockBreak{ForceX: 501, ForceY: -300, X: -10}},
		{exampleRopes(), windOf(span(-501, 500), span(-300, 301)), api.DockBreak{ForceX: -501, ForceY: -300, X: 10}},
		{exampleRopes(), windOf(span(0, 0), span(0, 301)), api.DockBreak{ForceY: 301, Y: -10}},
		{nil, force(0, 0), api.DockBreak{}},
		{nil, windOf(span(0, 1), span(0, 0)), api.DockBreak{ForceX: 1, X: -1}},
		{nil, windOf(span(-1, 0), span(0, 0)), api.DockBreak{ForceX: -1, X: 1}},
		{nil, force(0, 1), api.DockBreak{ForceY: 1, Y: -1}},
		{nil, force(0, -1), api.DockBreak{ForceY: -1, Y: 1}},
		{nil, force(-1, -1), api.DockBreak{ForceX: -1, ForceY: -1, X: 1}},
		{nil, windOf(span(0, 1), span(0, 1)), api.DockBreak{ForceY: 1, Y: -1}},
		// a rope alone pulls in one direction, neither back nor aside
		{one, force(-30, -40), api.DockBreak{}},
		{one, force(-15, -20), api.DockBreak{}},
		{one, force(0, 0), api.DockBreak{}},
		{one, force(-33, -44), api.DockBreak{ForceX: -33, ForceY: -44, X: 3, Y: 4}},
		{one, force(3, 4), api.DockBreak{ForceX: 3, ForceY: 4, X: -3, Y: -4}},
		{one, force(-30, -39), api.DockBreak{ForceX: -30, ForceY: -39, X: 4, Y: -3}},
		{one, force(-30, -41), api.DockBreak{ForceX: -30, ForceY: -41, X: -4, Y: 3}},
		{back, force(12, 16), api.DockBreak{}},
		{back, windOf(span(-30, 12), span(-40, -40)), api.DockBreak{ForceX: 12, ForceY: -40, X: -4, Y: 3}},
		{back, force(15, 20), api.DockBreak{ForceX: 15, ForceY: 20, X: -3, Y: -4}},
		{weak, force(0, 0), api.DockBreak{}},
		{weak, force(-3, -4), api.DockBreak{ForceX: -3, ForceY: -4, X: 3, Y: 4}},
		// the second rope is looked at before the axes are
		{[]api.DockRope{{X: 1}, {X: 1, Y: 1, Strength: 5}}, force(-5, -6), api.DockBreak{ForceX: -5, ForceY: -6, Y: 1}},
		{[]api.DockRope{{X: 1, Strength: 5}, {X: 2, Y: 1, Strength: 5}}, force(-5, -5), api.DockBreak{ForceX: -5, ForceY: -5, X: -1, Y: 2}},
		{[]api.DockRope{{X: 100, Y: 100, Strength: 10000}}, force(-1000000, -1000000), api.DockBreak{}},
		{[]api.DockRope{{X: 100, Y: 100, Strength: 9999}}, force(-1000000, -1000000), api.DockBreak{ForceX: -1000000, ForceY: -1000000, X: 100, Y: 100}},
	} {
		is, b, e := dock.Hold(one.ropes, one.wind)
		if e != api.OK || is != (one.want == api.DockBreak{}) || b != one.want {
			t.Error(i, is, b, e, one.want)
		}
	}
}

// checkHold checks P6.2 for ropes and a wind, and reports whether the ropes hold it.
func checkHold(t *testing.T, r *rand.Rand, ropes []api.DockRope, w api.DockWind) bool {
	t.Helper()
	is, b, e := dock.Hold(ropes, w)
	if e != api.OK || is != canHoldAll(ropes, w) || b != breakOf(ropes, w) {
		t.Fatal(ropes, w, is, b, e)
	}
	if !is {
		f, d := pair{b.ForceX, b.ForceY}, pair{b.X, b.Y}
		if canHold(ropes, f) || !failIn(ropes, f, d) {
			t.Fatal(ropes, w, b)
		}
		return false
	}
	for range 4 {
		f := pair{within(r, w.X), within(r, w.Y)}
		d := pair{r.IntN(41) - 20, r.IntN(41) - 20}
		if !canHold(ropes, f) || failIn(ropes, f, d) {
			t.Fatal(ropes, w, f, d)
		}
	}
	return true
}

// TestHolds compares Hold with all forces that ropes can have, for few ropes and small numbers
// (P6.2): there, forces often lie at the border of what the ropes hold.
func TestHolds(t *testing.T) {
	r := newRandom()
	held := 0
	for range 20000 {
		ropes, w := randomMooring(r, 6)
		if checkHold(t, r, ropes, w) {
			held++
		}
	}
	if held < 4000 || held > 16000 {
		t.Error(held)
	}
}

// TestHoldsMuch does so for many ropes and great numbers (P6.2).
func TestHoldsMuch(t *testing.T) {
	r := newRandom()
	held := 0
	for range 1500 {
		ropes, w := randomGreatMooring(r)
		if checkHold(t, r, ropes, w) {
			held++
		}
	}
	if held < 300 || held > 1200 {
		t.Error(held)
	}
	strong := slices.Repeat([]api.DockRope{{X: -100, Y: -100, Strength: api.DockStrength}}, 4)
	strong = append(strong, slices.Repeat([]api.DockRope{{X: 100, Y: 100, Strength: api.DockStrength}}, 4)...)
	checkHold(t, r, strong, force(api.DockForce, api.DockForce))
	checkHold(t, r, strong, windOf(span(-api.DockForce, api.DockForce), span(-api.DockForce, api.DockForce)))
}

// setsOf returns all sets of so many ropes, those with fewer ropes first, then in lexicographic order.
func setsOf(count int) [][]int {
	sets := [][]int{{}}
	for i := range count {
		for _, set := range sets {
			sets = append(sets, append(slices.Clone(set), i))
		}
	}
	slices.SortFunc(sets, func(a, b []int) int {
		if len(a) != len(b) {
			return len(a) - len(b)
		}
		return slices.Compare(a, b)
	})
	return sets
}

// chosen returns the ropes of a set.
func chosen(ropes []api.DockRope, set []int) []api.DockRope {
	var list []api.DockRope
	for _, i := range set {
		list = append(list, ropes[i])
	}
	return list
}

// TestSpareExamples checks P6.3 (Spare).
func TestSpareExamples(t *testing.T) {
	twice := append(exampleRopes(), exampleRopes()...)
	for i, one := range []struct {
		ropes []api.DockRope
		wind  api.DockWind
		want  int // -2 if not even all hold it
	}{
		{exampleRopes(), exampleWind(), 0},
		{exampleRopes(), greaterWind(), -2},
		{exampleRopes(), force(-400, 0), 0},
		{exampleRopes(), force(400, 0), 1},
		{exampleRopes(), force(0, -300), 2},
		{exampleRopes(), windOf(span(0, 0), span(0, 1)), 3},
		{exampleRopes(), force(0, 0), -1},
		{twice, exampleWind(), -1},
		{twice, windOf(span(-400, 400), span(-300, 301)), 3},
		{twice[:7], exampleWind(), 3},
		{nil, force(0, 0), -1},
		{nil, force(0, 1), -2},
	} {
		rope, e := dock.Spare(one.ropes, one.wind)
		if one.want == -2 && (e != api.ErrRule || rope != 0) || one.want != -2 && (e != api.OK || rope != one.want) {
			t.Error(i, rope, e)
		}
	}
}

// TestFewestExamples checks P6.3 (Fewest).
func TestFewestExamples(t *testing.T) {
	twice := append(exampleRopes(), exampleRopes()...)
	for i, one := range []struct {
		ropes []api.DockRope
		wind  api.DockWind
		want  []int // nil for none
	}{
		{exampleRopes(), exampleWind(), []int{0, 1, 2, 3}},
		{exampleRopes(), greaterWind(), nil},
		{exampleRopes(), force(0, 0), []int{}},
		{exampleRopes(), force(1, -1), []int{1, 2}},
		{twice, exampleWind(), []int{0, 1, 2, 3}},
		{twice, greaterWind(), []int{0, 1, 2, 3, 6}},
		{twice, windOf(span(-400, -1), span(0, 0)), []int{0}},
		{twice, windOf(span(-600, -1), span(0, 0)), []int{0, 4}},
		{twice, windOf(span(-1000, 1000), span(-600, 600)), []int{0, 1, 2, 3, 4, 5, 6, 7}},
		{twice, windOf(span(-1000, 1001), span(-600, 600)), nil},
		{append([]api.DockRope{{Y: 1}}, exampleRopes()...), force(-500, 0), []int{1}},
		// one rope that comes late is better than two
		{append(exampleRopes(), api.DockRope{X: 10, Y: 10, Strength: 40}), force(-400, -400), []int{4}},
		{append(exampleRopes(), api.DockRope{X: 10, Y: 10, Strength: 40}), force(-400, -300), []int{0, 2}},
		{nil, force(0, 0), []int{}},
		{nil, force(1, 0), nil},
	} {
		l, e := dock.Fewest(one.ropes, one.wind)
		if one.want == nil && (e != api.ErrNone || l != nil) || one.want != nil && (e != api.OK || !slices.Equal(l, one.want)) {
			t.Error(i, l, e)
		}
	}
}

// checkSets compares Spare and Fewest with all sets of ropes, and returns how many are needed; -1 if
// there are not enough.
func checkSets(t *testing.T, ropes []api.DockRope, w api.DockWind) int {
	t.Helper()
	sets := setsOf(len(ropes))
	best := slices.IndexFunc(sets, func(set []int) bool { return canHoldAll(chosen(ropes, set), w) })
	l, e := dock.Fewest(ropes, w)
	rope, e2 := dock.Spare(ropes, w)
	if best < 0 {
		if e != api.ErrNone || l != nil || e2 != api.ErrRule || rope != 0 {
			t.Fatal(ropes, w, l, e, rope, e2)
		}
		return -1
	}
	missed := -1
	for i := len(ropes) - 1; i >= 0; i-- {
		if !canHoldAll(slices.Delete(slices.Clone(ropes), i, i+1), w) {
			missed = i
		}
	}
	if e != api.OK || !slices.Equal(l, sets[best]) || e2 != api.OK || rope != missed {
		t.Fatal(ropes, w, l, e, sets[best], rope, e2, missed)
	}
	return len(l)
}

// TestAllSets checks P6.3 for few ropes and small numbers, and for many ropes.
func TestAllSets(t *testing.T) {
	r := newRandom()
	needed := map[int]int{}
	for range 4000 {
		ropes, w := randomMooring(r, 6)
		needed[checkSets(t, ropes, w)]++
	}
	for range 200 {
		ropes, w := randomGreatMooring(r)
		needed[checkSets(t, ropes, w)]++
	}
	for count := -1; count < 6; count++ {
		if needed[count] < 5 {
			t.Error(needed)
		}
	}
}

// TestRopesErrors checks the errors of P6.2 and P6.3.
func TestRopesErrors(t *testing.T) {
	fails := func(i int, ropes []api.DockRope, w api.DockWind, want api.Errno) {
		t.Helper()
		if is, b, e := dock.Hold(ropes, w); e != want || is || b != (api.DockBreak{}) {
			t.Error(i, is, b, e)
		}
		if rope, e := dock.Spare(ropes, w); e != want || rope != 0 {
			t.Error(i, rope, e)
		}
		if l, e := dock.Fewest(ropes, w); e != want || l != nil {
			t.Error(i, l, e)
		}
	}
	for i, bad := range []api.DockRope{
		{}, {Strength: 1}, {X: 101}, {X: -101}, {Y: 101}, {Y: -101}, {X: 1, Strength: -1}, {X: 1, Strength: 1000001}, {X: -1 << 63, Y: 1},
	} {
		fails(i, []api.DockRope{bad}, force(0, 0), api.ErrArg)
		fails(i, append(exampleRopes(), bad), exampleWind(), api.ErrArg)
		fails(i, slices.Repeat([]api.DockRope{bad}, 9), exampleWind(), api.ErrLong)
	}
	for i, bad := range []api.Span{span(1, 0), span(-1000001, 0), span(0, 1000001), span(-1000002, -1000001), span(1000001, 1000001)} {
		fails(i, exampleRopes(), windOf(bad, span(0, 0)), api.ErrArg)
		fails(i, exampleRopes(), windOf(span(0, 0), bad), api.ErrArg)
		fails(i, nil, windOf(bad, bad), api.ErrArg)
		fails(i, make([]api.DockRope, 9), windOf(bad, bad), api.ErrLong)
	}
}
