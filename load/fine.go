package load

import "windsock/api"

// The functions of this file report whether something is as the chapter defines it.

func span(low, high int) api.Span { return api.Span{Low: low, High: high} }

func holds(s api.Span, x int) bool { return s.Low <= x && x <= s.High }

// spanFine reports whether a span is one of numbers that another span holds.
func spanFine(s, all api.Span) bool {
	return all.Low <= s.Low && s.Low <= s.High && s.High <= all.High
}

func kilosFine(weights ...int) bool {
	for _, w := range weights {
		if !holds(span(0, api.LoadKilos), w) {
			return false
		}
	}
	return true
}

func weightsFine(weights ...api.Span) bool {
	for _, w := range weights {
		if !spanFine(w, span(0, api.LoadKilos)) {
			return false
		}
	}
	return true
}

func momentFine(moment int) bool { return holds(span(-api.LoadMoment, api.LoadMoment), moment) }

func planeFine(p api.Plane) bool {
	return holds(span(1, api.LoadKilos), p.Empty) && momentFine(p.Moment) &&
		kilosFine(p.Takeoff, p.Landing, p.Reserve) && cornersFine(p.Corners) &&
		len(p.Stations) <= api.LoadStations && len(p.Floats) <= api.LoadFloats &&
		stationsFine(p.Tank) && stationsFine(p.Stations...) && stationsFine(p.Floats...)
}

func stationsFine(stations ...api.LoadStation) bool {
	for _, s := range stations {
		if !holds(span(-api.LoadArm, api.LoadArm), s.Arm) || !kilosFine(s.Most) {
			return false
		}
	}
	return true
}

func cornersFine(corners []api.LoadCorner) bool {
	if !holds(span(3, api.LoadCorners), len(corners)) {
		return false
	}
	for _, c := range corners {
		if !kilosFine(c.Weight) || !momentFine(c.Moment) {
			return false
		}
	}
	return convex(corners)
}

// convex reports whether each edge has all corners but its own on its good side.
func convex(corners []api.LoadCorner) bool {
	for i, e := range edges(corners) {
		for k, c := range corners {
			own := k == i || k == (i+1)%len(corners)
			if !own && e.side(c.Weight, c.Moment) <= 0 {
				return false
			}
		}
	}
	return true
}

// itemsFine reports whether items are as defined for a plane with so many stations.
func itemsFine(stations int, items []api.LoadItem) bool {
	if len(items) > api.LoadItems {
		return false
	}
	for _, item := range items {
		if !holds(span(0, stations-1), item.Station) || !weightsFine(item.Weight) {
			return false
		}
	}
	return true
}

// pointFine reports whether a point is as defined for a plane that is so. Its bounds are those
// that the longest trip can come to.
func pointFine(p api.Plane, x api.LoadPoint) bool {
	const trip = api.LoadLegs * api.LoadKilos
	if !itemsFine(len(p.Stations), x.Items) || !spanFine(x.Tank, span(-trip, api.LoadKilos+trip)) || len(x.Water) != len(p.Floats) {
		return false
	}
	for _, water := range x.Water {
		if !spanFine(water, span(0, trip)) {
			return false
		}
	}
	return true
}

// tripFine reports whether a trip is as defined for a plane with so many stations.
func tripFine(stations int, fuel api.Span, legs []api.LoadLeg) bool {
	if !weightsFine(fuel) || !holds(span(1, api.LoadLegs), len(legs)) {
		return false
	}
	for _, leg := range legs {
		if !itemsFine(stations, leg.Items) || !kilosFine(leg.Fuel) || !weightsFine(leg.Burn, leg.Leak) {
			return false
		}
	}
	return true
}

// peopleFine reports whether people are as defined for a trip of so many legs.
func peopleFine(p api.Plane, legs int, people []api.LoadPerson) bool {
	for _, one := range people {
		if !weightsFine(one.Weight) || !holds(span(0, len(p.Stations)-1), one.Station) ||
			!spanFine(one.Legs, span(0, legs-1)) || !holds(span(0, api.LoadWorth), one.Worth) {
			return false
		}
	}
	return true
}
