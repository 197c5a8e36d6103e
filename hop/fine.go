package hop

import "windsock/api"

// The functions of this file report whether something is as the chapter defines it.

func span(low, high int) api.Span { return api.Span{Low: low, High: high} }

func holds(s api.Span, x int) bool { return s.Low <= x && x <= s.High }

// spanFine reports whether a span is one of numbers that another span holds.
func spanFine(s, all api.Span) bool {
	return all.Low <= s.Low && s.Low <= s.High && s.High <= all.High
}

func minuteFine(minute int) bool { return holds(span(0, api.HopDayLong), minute) }

func chainFine(c api.HopChain) bool {
	if !holds(span(2, api.HopStops), len(c.Stops)) || len(c.Legs) != len(c.Stops)-1 {
		return false
	}
	for _, stop := range c.Stops {
		if !stopFine(stop) {
			return false
		}
	}
	for _, leg := range c.Legs {
		if !spanFine(leg, span(0, api.HopTurn)) {
			return false
		}
	}
	return true
}

func stopFine(s api.HopStop) bool {
	if len(s.Windows) > api.HopWindows || !holds(span(0, api.HopTurn), s.Turn) {
		return false
	}
	least := 0
	for _, window := range s.Windows {
		if !spanFine(window, span(least, api.HopDayLong)) {
			return false
		}
		least = window.High + 2
	}
	return true
}

// legsFine reports whether minutes of legs are as defined for a chain that is so.
func legsFine(c api.HopChain, legs []int) bool {
	if len(legs) != len(c.Legs) {
		return false
	}
	for i, leg := range c.Legs {
		if !holds(leg, legs[i]) {
			return false
		}
	}
	return true
}

func weightsFine(weights ...int) bool {
	for _, w := range weights {
		if !holds(span(0, api.HopWeight), w) {
			return false
		}
	}
	return true
}

// onMap reports whether all of some places are places of a day.
func onMap(d api.HopDay, places ...int) bool {
	for _, p := range places {
		if !holds(span(0, len(d.Places)-1), p) {
			return false
		}
	}
	return true
}

// openFine reports whether a number says which places of a day are open.
func openFine(d api.HopDay, open int) bool { return holds(span(0, 1<<len(d.Places)-1), open) }

func weatherFine(d api.HopDay, weather int) bool { return holds(span(0, len(d.Weathers)-1), weather) }

func dayFine(d api.HopDay) bool {
	if !placesFine(d) || !linksFine(d) || !planesFine(d) || !peopleFine(d) || !weathersFine(d) {
		return false
	}
	l := dayOf(d)
	return l.roomy(l.start())
}

func placesFine(d api.HopDay) bool {
	for _, p := range d.Places {
		if !holds(span(0, api.HopPlanes), p.Berths) {
			return false
		}
	}
	return holds(span(1, api.HopPlaces), len(d.Places))
}

// linksFine reports whether the links are as defined. There are fewer pairs of places than there
// may be links.
func linksFine(d api.HopDay) bool {
	seen := map[api.HopLink]bool{}
	for _, l := range d.Links {
		low, high := min(l.One, l.Other), max(l.One, l.Other)
		key := api.HopLink{One: low, Other: high}
		if !onMap(d, low, high) || low == high || seen[key] {
			return false
		}
		seen[key] = true
	}
	return true
}

func planesFine(d api.HopDay) bool {
	for _, p := range d.Planes {
		size := span(0, api.HopSeats)
		if !onMap(d, p.At, p.Home) || !holds(size, p.Seats) || !holds(size, p.Duty) || !weightsFine(p.Away) {
			return false
		}
	}
	return len(d.Planes) <= api.HopPlanes
}

func peopleFine(d api.HopDay) bool {
	for _, p := range d.People {
		if !onMap(d, p.At, p.To) || !holds(span(1, api.HopSeats), p.Seats) || !weightsFine(p.Strand, p.Lodged) {
			return false
		}
	}
	return len(d.People) <= api.HopPeople
}

func weathersFine(d api.HopDay) bool {
	if !holds(span(1, api.HopWeathers), len(d.Weathers)) {
		return false
	}
	for _, slots := range d.Weathers {
		if !holds(span(1, api.HopSlots), len(slots)) || len(slots) != len(d.Weathers[0]) {
			return false
		}
		for _, open := range slots {
			if !openFine(d, open) {
				return false
			}
		}
	}
	return true
}

// stateFine reports whether a state is as defined for a day that is so.
func stateFine(d api.HopDay, s api.HopState) bool {
	for _, legs := range s.Legs {
		if !holds(span(0, api.HopSlots), legs) {
			return false
		}
	}
	return len(s.Planes) == len(d.Planes) && len(s.Legs) == len(d.Planes) && len(s.People) == len(d.People) &&
		onMap(d, s.Planes...) && onMap(d, s.People...)
}

// unitFine reports whether a unit is as defined for a day that is so.
func unitFine(d api.HopDay, unit []api.HopFlight) bool {
	for _, f := range unit {
		stays := f.To == stay && len(f.People) == 0
		if !stays && !onMap(d, f.To) {
			return false
		}
		before := -1
		for _, person := range f.People {
			if !holds(span(before+1, len(d.People)-1), person) {
				return false
			}
			before = person
		}
	}
	return len(unit) == len(d.Planes)
}

// policyFine reports whether a policy is as defined for a day that is so.
func policyFine(d api.HopDay, policy [][][]api.HopFlight) bool {
	for _, units := range policy {
		if len(units) != len(d.Weathers[0]) {
			return false
		}
		for _, unit := range units {
			if !unitFine(d, unit) {
				return false
			}
		}
	}
	return len(policy) == len(d.Weathers)
}
