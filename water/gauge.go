package water

import (
	"math/bits"

	"windsock/api"
)

// minutes yields the minutes of a day.
func minutes(yield func(int) bool) {
	for minute := 0; minute <= api.WaterDay; minute++ {
		if !yield(minute) {
			return
		}
	}
}

func distance(a, b int) int { return max(a, b) - min(a, b) }

// drift returns by how much a gauge can change from one minute to another one.
func drift(g api.Gauge, from, to int) int { return g.Rate * distance(from, to) }

// boundsAt returns the bounds of a gauge that has a course. Each reading alone gives bounds that
// widen by Rate with each minute; where they are put together, the lower ones are a course
// themselves, and so are the upper ones, so that no closer bounds are true.
func boundsAt(g api.Gauge, minute int) api.Span {
	bounds := span(g.Least, g.Most)
	for _, r := range g.Readings {
		change := drift(g, r.Minute, minute)
		bounds.Low = max(bounds.Low, r.Value.Low-change)
		bounds.High = min(bounds.High, r.Value.High+change)
	}
	return bounds
}

func clashes(g api.Gauge, i, j int) bool {
	one, other := g.Readings[i], g.Readings[j]
	if i == j {
		return one.Value.Low > g.Most || one.Value.High < g.Least
	}
	change := drift(g, one.Minute, other.Minute)
	return one.Value.Low-other.Value.High > change || other.Value.Low-one.Value.High > change
}

func firstClash(g api.Gauge) (int, int, bool) {
	for i := range g.Readings {
		for j := i; j < len(g.Readings); j++ {
			if clashes(g, i, j) {
				return i, j, true
			}
		}
	}
	return 0, 0, false
}

// hasCourse reports whether a gauge has a course, which it has just if no readings clash.
func hasCourse(g api.Gauge) bool {
	_, _, found := firstClash(g)
	return !found
}

func haveCourses(w api.Weather) bool {
	return hasCourse(w.Tide) && hasCourse(w.East) && hasCourse(w.North) && hasCourse(w.Wave) && hasCourse(w.Swell)
}

// sourceSet is a set of sources as bits. The source 0 has the highest bit, so that of two sets
// of one size the first one in lexicographic order is the greater number.
type sourceSet uint

const (
	allSources sourceSet = 1<<api.WaterSources - 1
	topSource  sourceSet = 1 << (api.WaterSources - 1)
)

func (s sourceSet) has(source int) bool { return s&(topSource>>source) != 0 }

func (s sourceSet) size() int { return bits.OnesCount(uint(s)) }

func leastBlame(g api.Gauge) sourceSet {
	least := allSources
search:
	for size := range api.WaterSources {
		for i := range allSources + 1 {
			set := allSources - i
			if set.size() == size && hasCourse(ignore(g, set)) {
				least = set
				break search
			}
		}
	}
	return least
}

// ignore returns a gauge without the readings of some sources.
func ignore(g api.Gauge, sources sourceSet) api.Gauge {
	var kept []api.Reading
	for _, r := range g.Readings {
		if !sources.has(r.Source) {
			kept = append(kept, r)
		}
	}
	g.Readings = kept
	return g
}
