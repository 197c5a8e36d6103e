package watch

import (
	"slices"

	"windsock/api"
)

const (
	desk  = 0                // the station where routes end
	never = api.WatchDay + 1 // a minute that is too late
)

// openFrom returns the first minute from one on in which something is open; never if there is none.
func openFrom(open []api.Span, minute int) int {
	first := never
	for _, s := range open {
		if minute <= s.High {
			first = min(first, max(minute, s.Low))
		}
	}
	return first
}

func isOpen(open []api.Span, minute int) bool { return openFrom(open, minute) == minute }

// inRange reports whether a station hears what is sent from a cell when it is open.
func inRange(w api.Watch, station, cell int) bool {
	r := w.Relays[station]
	return distance(w.Sky, r.Cell, cell) <= r.Range
}

// hearers returns the stations that hear what is sent from a cell in a minute.
func hearers(w api.Watch, cell, minute int) []int {
	var stations []int
	for station, r := range w.Relays {
		if inRange(w, station, cell) && isOpen(r.Open, minute) {
			stations = append(stations, station)
		}
	}
	return stations
}

// onward returns in which minute what is at a station in some minute is at each other one, if it
// goes there along a link; one that is too late if it cannot.
func onward(n api.Net, station, minute int) []int {
	minutes := slices.Repeat([]int{never}, len(n.Relays))
	for _, l := range n.Links {
		if l.From == station {
			minutes[l.To] = min(minutes[l.To], openFrom(l.Open, minute)+l.Delay)
		}
	}
	return minutes
}

// route is the stations along which something has gone, and in which minute it is at the last one.
type route struct {
	stations []int
	minute   int
}

func (r route) last() int { return r.stations[len(r.stations)-1] }

// to returns the route that goes on to a station, where it is in some minute.
func (r route) to(station, minute int) route {
	return route{slices.Concat(r.stations, []int{station}), minute}
}

// queue is where routes wait to go on.
type queue interface {
	put(r route)
	take() (route, bool)
}

// line is a queue that gives back first what was put first.
type line struct {
	routes []route
}

func (l *line) put(r route) { l.routes = append(l.routes, r) }

func (l *line) take() (route, bool) {
	if len(l.routes) == 0 {
		return route{}, false
	}
	r := l.routes[0]
	l.routes = l.routes[1:]
	return r, true
}

// best returns the best route of what some stations (in increasing order) hear in a minute, and
// whether there is any. Routes wait in the order of how many stations they have, then in
// lexicographic order. So one that is at its last station no earlier than one before it is of no
// use; one that is there earlier is, and of those that come to the desk, the last one is best.
func best(n api.Net, first []int, minute int) (route, bool) {
	var found route
	earliest := slices.Repeat([]int{never}, len(n.Relays))
	var waiting queue = &line{}
	for _, station := range first {
		earliest[station] = minute
		waiting.put(route{[]int{station}, minute})
	}
	for r, some := waiting.take(); some; r, some = waiting.take() {
		if r.last() == desk {
			found = r
			continue
		}
		for station, minute := range onward(n, r.last(), r.minute) {
			if minute < earliest[station] {
				earliest[station] = minute
				waiting.put(r.to(station, minute))
			}
		}
	}
	return found, len(found.stations) > 0
}
