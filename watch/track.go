package watch

import (
	"iter"
	"maps"

	"windsock/api"
)

// track is a watch that is followed, and the places that are possible in a minute.
type track struct {
	*followed
	minute int
	places map[api.Place]bool
}

// track returns what is possible in the first minute.
func (f *followed) track() *track {
	t := &track{f, f.Minute, map[api.Place]bool{{Cell: f.Cell}: true}}
	t.look()
	return t
}

// pass lets the next minute come.
func (t *track) pass() {
	t.minute++
	t.places = behind(t.places, t.next)
	t.look()
}

// next returns the places of the minute behind one.
func (t *track) next(at api.Place) iter.Seq[api.Place] {
	return func(yield func(api.Place) bool) {
		if !yield(at) || at.Down || !yield(api.Place{Cell: at.Cell, Down: true}) {
			return
		}
		for cell := range neighbours(t.Sky, at.Cell) {
			if !yield(api.Place{Cell: cell}) {
				return
			}
		}
	}
}

// look leaves out what is not possible in the minute.
func (t *track) look() {
	for _, do := range [...]func(){t.tire, t.hear, t.miss} {
		do()
	}
}

func (t *track) leaveOut(is func(p api.Place) bool) {
	maps.DeleteFunc(t.places, func(p api.Place, _ bool) bool { return is(p) })
}

// only leaves out all places but one.
func (t *track) only(place api.Place) {
	t.leaveOut(func(p api.Place) bool { return p != place })
}

// tire leaves out flying if the flight cannot do so any longer.
func (t *track) tire() {
	if t.minute-t.Minute > t.Endure {
		t.leaveOut(func(p api.Place) bool { return !p.Down })
	}
}

// hear leaves out what contradicts messages.
func (t *track) hear() {
	for _, m := range t.known {
		if m.Minute == t.minute {
			t.only(api.Place{Cell: m.Cell, Down: m.Down})
		}
	}
}

// miss leaves out flying where the flight would have been heard, and was not.
func (t *track) miss() {
	if !t.sends(t.minute) {
		return
	}
	for station := range t.Relays {
		if t.reports(station) {
			t.leaveOut(func(p api.Place) bool {
				return !p.Down && inRange(t.Watch, station, p.Cell) && !t.told(p.Cell, t.minute)
			})
		}
	}
}

// reports reports whether what a station hears in the minute arrives in the last one at the latest.
// The best route of what several stations hear does so if that of any of them does.
func (t *track) reports(station int) bool {
	r, found := best(t.Net, []int{station}, t.minute)
	return found && isOpen(t.Relays[station].Open, t.minute) && r.minute <= t.last
}

// where returns the places that are possible in the last minute.
func (f *followed) where() map[api.Place]bool {
	t := f.track()
	for t.minute < f.last {
		t.pass()
	}
	return t.places
}

// noCourse is why a course is given up: it is none, or does not agree.
type noCourse struct{}

// be gives up if the flight cannot be in a place, and goes on from it alone otherwise.
func (t *track) be(place api.Place) {
	if !t.places[place] {
		panic(noCourse{})
	}
	t.only(place)
}

// agrees reports whether some places, at least one, are a course up to the last minute that
// agrees with messages and silence.
func (f *followed) agrees(course []api.Place) (agrees bool) {
	defer func() {
		if _, gaveUp := recover().(noCourse); gaveUp {
			agrees = false
		}
	}()
	t := f.track()
	for i, place := range course {
		if i > 0 {
			t.pass()
		}
		t.be(place)
	}
	return true
}
