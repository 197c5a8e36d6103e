package dock

import (
	"iter"
	"slices"

	"windsock/api"
)

// presence returns the minutes in which a plane may be there.
func presence(s api.DockStay) api.Span { return span(s.Come.Low, s.Go.High) }

// mayMeet reports whether two planes may be there in one minute.
func mayMeet(one, other api.DockStay) bool {
	a, b := presence(one), presence(other)
	return a.Low <= b.High && b.Low <= a.High
}

// changes returns the minutes from which on a plane may be there that could not before, in
// increasing order. There is no other minute that can be the first one with too many.
func changes(stays []api.DockStay) iter.Seq[int] {
	return func(yield func(int) bool) {
		var minutes []int
		for _, s := range stays {
			minutes = append(minutes, presence(s).Low)
		}
		slices.Sort(minutes)
		for _, minute := range slices.Compact(minutes) {
			if !yield(minute) {
				return
			}
		}
	}
}

// there returns the stays that may be there in a minute.
func there(stays []api.DockStay, minute int) []int {
	var indexes []int
	for i, s := range stays {
		if holds(presence(s), minute) {
			indexes = append(indexes, i)
		}
	}
	return indexes
}

// berthed returns the first berths, and whether there are any.
func berthed(stays []api.DockStay, berths int) ([]int, bool) {
	var given []int
	isFree := func(berth int, stay api.DockStay) bool {
		for i, other := range given {
			if other == berth && mayMeet(stays[i], stay) {
				return false
			}
		}
		return true
	}
	var give func(used int) bool
	give = func(used int) bool {
		i := len(given)
		if i == len(stays) {
			return true
		}
		// Berths that nobody was given are all alike: if the first one of them leads nowhere, none does.
		for berth := range min(used+1, berths) {
			if !isFree(berth, stays[i]) {
				continue
			}
			given = append(given, berth)
			if give(max(used, berth+1)) {
				return true
			}
			given = given[:i]
		}
		return false
	}
	found := give(0)
	return given, found
}
