package load

import (
	"slices"

	"windsock/api"
)

// firstSeats returns the first seats of some weights in a point that has no items yet, and
// whether there are any.
func firstSeats(p api.Plane, weights []api.Span, x api.LoadPoint) ([]int, bool) {
	var seat func(items []api.LoadItem) bool
	seat = func(items []api.LoadItem) bool {
		x.Items = items
		rule, _ := lookAt(p, x).broken()
		switch {
		case rule != api.LoadFine && rule != api.LoadOut:
			return false // more items mend nothing but the balance
		case len(items) == len(weights):
			return rule == api.LoadFine
		}
		for station := range p.Stations {
			if seat(append(items, api.LoadItem{Station: station, Weight: weights[len(items)]})) {
				return true
			}
		}
		return false
	}
	if !seat(nil) {
		return nil, false
	}
	var seats []int
	for _, item := range x.Items {
		seats = append(seats, item.Station)
	}
	return seats, true
}

// bestPeople returns the best people and their worth, and whether the trip is sure with any. It
// comes to the sets of people in lexicographic order, so that the first of several is kept.
func bestPeople(p api.Plane, fuel api.Span, legs []api.LoadLeg, people []api.LoadPerson) ([]int, int, bool) {
	var best []int
	most := -1
	var choose func(taken []int, next, worth int)
	choose = func(taken []int, next, worth int) {
		if worth > most && sureWith(p, fuel, legs, people, taken) {
			best, most = slices.Clone(taken), worth
		}
		for i := next; i < len(people); i++ {
			choose(append(taken, i), i+1, worth+people[i].Worth)
		}
	}
	choose(nil, 0, 0)
	return best, max(most, 0), most >= 0
}

// sureWith reports whether a trip is sure, and no leg has too many items, with some people.
func sureWith(p api.Plane, fuel api.Span, legs []api.LoadLeg, people []api.LoadPerson, taken []int) bool {
	legs = slices.Clone(legs)
	for i := range legs {
		items := slices.Clone(legs[i].Items)
		for _, k := range taken {
			if one := people[k]; holds(one.Legs, i) {
				items = append(items, api.LoadItem{Station: one.Station, Weight: one.Weight})
			}
		}
		if len(items) > api.LoadItems {
			return false
		}
		legs[i].Items = items
	}
	at, _, _ := unsure(p, fuel, legs)
	return at < 0
}
