package watch

import "windsock/api"

// The functions of this file report whether something is as the chapter defines it.

func span(low, high int) api.Span { return api.Span{Low: low, High: high} }

func holds(s api.Span, x int) bool { return s.Low <= x && x <= s.High }

func dayHolds(minute int) bool { return holds(span(0, api.WatchDay), minute) }

// lastsFine reports whether a number is one of minutes that something lasts.
func lastsFine(minutes int) bool { return minutes > 0 && dayHolds(minutes) }

func skyFine(s api.Sky) bool {
	size := span(1, api.WatchGrid)
	return holds(size, s.Wide) && holds(size, s.Deep) && len(s.Shut) == s.Wide*s.Deep
}

func isCell(s api.Sky, cell int) bool { return holds(span(0, len(s.Shut)-1), cell) }

func isFree(s api.Sky, cell int) bool { return isCell(s, cell) && !s.Shut[cell] }

func areFree(s api.Sky, cells []int) bool {
	for _, cell := range cells {
		if !isFree(s, cell) {
			return false
		}
	}
	return true
}

func openFine(open []api.Span) bool {
	for _, s := range open {
		if s.Low > s.High || !dayHolds(s.Low) || !dayHolds(s.High) {
			return false
		}
	}
	return len(open) <= api.WatchOpen
}

// stationsFine reports whether the stations of a net are as defined, over a sky that is so.
func stationsFine(w api.Watch) bool {
	for _, r := range w.Relays {
		if !isCell(w.Sky, r.Cell) || !holds(span(0, api.WatchGrid), r.Range) || !openFine(r.Open) {
			return false
		}
	}
	return holds(span(1, api.WatchRelays), len(w.Relays))
}

func linksFine(n api.Net) bool {
	stations := span(0, len(n.Relays)-1)
	for _, l := range n.Links {
		if !holds(stations, l.From) || !holds(stations, l.To) || l.From == l.To || !dayHolds(l.Delay) || !openFine(l.Open) {
			return false
		}
	}
	return len(n.Links) <= api.WatchLinks
}

func stagesFine(after []int) bool {
	least := 0
	for _, minutes := range after {
		if !holds(span(least, api.WatchDay), minutes) {
			return false
		}
		least = minutes + 1
	}
	return len(after) <= api.WatchStages
}

func watchFine(w api.Watch) bool {
	return skyFine(w.Sky) && stationsFine(w) && linksFine(w.Net) && isFree(w.Sky, w.Cell) && dayHolds(w.Minute) &&
		lastsFine(w.Every) && lastsFine(w.Endure) && stagesFine(w.After)
}

// mailFine reports whether messages are as defined for a watch that is so.
func mailFine(w api.Watch, l []api.Message) bool {
	for _, m := range l {
		if !isFree(w.Sky, m.Cell) || m.Minute < w.Minute || m.Came < m.Minute || m.Came > api.WatchDay {
			return false
		}
	}
	return true
}

// flightError returns the error of a watch with messages, and of a minute that is asked about.
func flightError(w api.Watch, l []api.Message, minute int) api.Errno {
	switch {
	case len(l) > api.WatchMail:
		return api.ErrLong
	case !watchFine(w), !mailFine(w, l), !holds(span(w.Minute, api.WatchDay), minute):
		return api.ErrArg
	}
	return api.OK
}
