package hop

import (
	"slices"

	"windsock/api"
)

// ends is what each plane and person costs in the end, by the place where they are.
type ends struct {
	planes [api.HopPlanes][api.HopPlaces]int
	people [api.HopPeople][api.HopPlaces]int
}

// of returns the cost of a state.
func (e *ends) of(at where) int {
	sum := 0
	for i, place := range at.planes {
		sum += e.planes[i][place]
	}
	for i, place := range at.people {
		sum += e.people[i][place]
	}
	return sum
}

func (d *day) costs() *ends {
	e := &ends{}
	for place, there := range d.Places {
		for i, p := range d.Planes {
			if place != p.Home {
				e.planes[i][place] = p.Away
			}
		}
		for i, p := range d.People {
			switch {
			case place == p.To:
			case there.Lodge:
				e.people[i][place] = p.Lodged
			default:
				e.people[i][place] = p.Strand
			}
		}
	}
	return e
}

// alike returns the weathers that look alike with a weather until a slot.
func (d *day) alike(weather, slot int) []int {
	var weathers []int
others:
	for other, open := range d.Weathers {
		for s := range slot + 1 {
			if open[s] != d.Weathers[weather][s] {
				continue others
			}
		}
		weathers = append(weathers, other)
	}
	return weathers
}

// unitsOf returns a policy whose units can be compared.
func unitsOf(policy [][][]api.HopFlight) [][]unit {
	var all [][]unit
	for _, flights := range policy {
		var units []unit
		for _, f := range flights {
			units = append(units, unitOf(f))
		}
		all = append(all, units)
	}
	return all
}

// worst returns the cost of a policy, its worst weather and its fault.
func (d *day) worst(policy [][]unit) (int, int, api.HopFault) {
	most, worst := 0, 0
	for weather := range d.Weathers {
		end, fault := d.play(policy, weather)
		if fault.Rule != api.HopFine {
			return 0, 0, fault
		}
		if cost := d.costs().of(end); cost > most {
			most, worst = cost, weather
		}
	}
	return most, worst, api.HopFault{Rule: api.HopFine}
}

// play returns the state to which a policy leads in a weather, or its first fault there. That a
// unit is another one in a weather that looks alike is told ahead of what it breaks.
func (d *day) play(policy [][]unit, weather int) (where, api.HopFault) {
	at := d.start()
	for slot, open := range d.Weathers[weather] {
		u := policy[weather][slot]
		rule, _ := d.breaks(at, open, u)
		if d.otherwise(policy, weather, slot) {
			rule = api.HopAlike
		}
		if rule != api.HopFine {
			return where{}, api.HopFault{Weather: weather, Slot: slot, Rule: rule}
		}
		at = d.behind(at, u)
	}
	return at, api.HopFault{Rule: api.HopFine}
}

// otherwise reports whether a policy has another unit in a weather before that looks alike.
func (d *day) otherwise(policy [][]unit, weather, slot int) bool {
	return slices.ContainsFunc(d.alike(weather, slot), func(other int) bool {
		return other < weather && policy[other][slot] != policy[weather][slot]
	})
}
