package load

import (
	"slices"

	"windsock/api"
)

func pointsOf(p api.Plane, fuel api.Span, legs []api.LoadLeg) []api.LoadPoint {
	var points []api.LoadPoint
	tank, water := fuel, api.Span{} // all floats have the same water
	add := func(items []api.LoadItem, landing bool) {
		points = append(points, api.LoadPoint{
			Items:   slices.Clone(items),
			Tank:    tank,
			Water:   slices.Repeat([]api.Span{water}, len(p.Floats)),
			Landing: landing,
		})
	}
	for _, leg := range legs {
		if leg.Pump {
			water = api.Span{}
		}
		tank = together(tank, span(leg.Fuel, leg.Fuel))
		add(leg.Items, false)
		tank = together(tank, span(-leg.Burn.High, -leg.Burn.Low))
		water = together(water, leg.Leak)
		add(leg.Items, true)
	}
	return points
}

// unsure returns the first point of a trip that is not sure, its rule and the index; -1,
// LoadFine and 0 if all are.
func unsure(p api.Plane, fuel api.Span, legs []api.LoadLeg) (int, api.LoadRule, int) {
	for at, x := range pointsOf(p, fuel, legs) {
		if rule, index := lookAt(p, x).broken(); rule != api.LoadFine {
			return at, rule, index
		}
	}
	return -1, api.LoadFine, 0
}

// fuelSpare is what there is to spare of a rule at a point of a trip: without fuel at first, and
// by how much more it is with each kilogram of it.
type fuelSpare struct {
	without int
	each    int
}

// enough returns the amounts of fuel with which a rule is kept; an empty span, if there are none.
func (f fuelSpare) enough() api.Span {
	all := span(0, api.LoadKilos)
	switch {
	case f.without < 0 && f.each <= 0:
		return span(0, -1)
	case f.without < 0:
		all.Low = (f.each - 1 - f.without) / f.each
	case f.each < 0:
		all.High = f.without / -f.each
	}
	return all
}

// fuelSpares returns what there is to spare of all rules, point by point. Fuel that is known
// exactly makes a tank greater by the same at each point, whichever of its bounds matters there.
func fuelSpares(p api.Plane, legs []api.LoadLeg) []fuelSpare {
	var spares []fuelSpare
	more := pointsOf(p, span(1, 1), legs)
	for at, x := range pointsOf(p, span(0, 0), legs) {
		one := lookAt(p, more[at]).spare()
		for i, none := range lookAt(p, x).spare() {
			spares = append(spares, fuelSpare{without: none, each: one[i] - none})
		}
	}
	return spares
}

// common returns the numbers of a span that each of some values allows.
func common[T any](all api.Span, values []T, allowed func(T) api.Span) api.Span {
	for _, v := range values {
		s := allowed(v)
		all = span(max(all.Low, s.Low), min(all.High, s.High))
	}
	return all
}

// fuelBounds returns the amounts of fuel with which a trip is sure; an empty span, if there are
// none.
func fuelBounds(p api.Plane, legs []api.LoadLeg) api.Span {
	return common(span(0, api.LoadKilos), fuelSpares(p, legs), fuelSpare.enough)
}
