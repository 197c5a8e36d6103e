package water

import (
	"iter"
	"slices"
	"sort"

	"windsock/api"
)

// verdict says in which of the truths that agree with a sea something is so.
type verdict int

const (
	never   verdict = iota // in none
	perhaps                // in some
	surely                 // in each
)

// look is a sea that is looked at along a strip, for a need.
type look struct {
	api.Sea
	strip api.Strip
	need  api.Need
}

// moment is between which bounds the gauges of a sea are in a minute.
type moment struct {
	minute int
	tide   api.Span
	east   api.Span
	north  api.Span
	wave   api.Span
	swell  api.Span
}

// lookAt returns a look, or the error of what it looks at.
func lookAt(s api.Sea, p api.Strip, n api.Need, minute int) (*look, api.Errno) {
	if !seaFine(s) || !stripFine(s.Chart, p) || !needFine(n) || !minuteFine(minute) {
		return nil, api.ErrArg
	}
	if !haveCourses(s.Weather) {
		return nil, api.ErrNone
	}
	return &look{Sea: s, strip: p, need: n}, api.OK
}

// certain returns a sea with which just one truth agrees.
func certain(s api.Sea, t api.Truth) api.Sea {
	s.Tide, s.East, s.North = still(t.Tide), still(t.East), still(t.North)
	s.Wave, s.Swell = still(t.Wave), still(t.Swell)
	var depths []api.Span
	for _, depth := range t.Depths {
		depths = append(depths, span(depth, depth))
	}
	var boats []api.Boat
	for i, b := range s.Boats {
		if t.Boats[i] {
			boats = append(boats, api.Boat{X: b.X, Y: b.Y, Times: span(0, api.WaterDay), Sure: true})
		}
	}
	s.Depths, s.Boats = depths, boats
	return s
}

// still returns a gauge that is always the same.
func still(value int) api.Gauge { return api.Gauge{Least: value, Most: value} }

func (l *look) moment(minute int) moment {
	return moment{
		minute: minute,
		tide:   boundsAt(l.Tide, minute),
		east:   boundsAt(l.East, minute),
		north:  boundsAt(l.North, minute),
		wave:   boundsAt(l.Wave, minute),
		swell:  boundsAt(l.Swell, minute),
	}
}

// judge returns whether the strip is usable in a moment. The conditions depend on different
// numbers of a truth, so what is so for each of them alone is so for all of them together.
func (l *look) judge(m moment) verdict {
	v := surely
	for _, condition := range [...]func(moment) verdict{l.room, l.wind, l.waves, l.sight} {
		v = min(v, condition(m))
	}
	return v
}

// day returns the verdicts of all minutes.
func (l *look) day() []verdict {
	var verdicts []verdict
	for minute := range minutes {
		verdicts = append(verdicts, l.judge(l.moment(minute)))
	}
	return verdicts
}

func (l *look) sureMinutes() int {
	count := 0
	for _, v := range l.day() {
		if v == surely {
			count++
		}
	}
	return count
}

// windowsOf returns the windows in which verdicts are some verdict, or a better one.
func windowsOf(verdicts []verdict, least verdict) []api.Span {
	return gather(slices.All(verdicts), func(v verdict) bool { return v >= least })
}

// gather returns the longest spans of numbers whose values are good.
func gather[T any](values iter.Seq2[int, T], good func(T) bool) []api.Span {
	var spans []api.Span
	for i, value := range values {
		last := len(spans) - 1
		switch {
		case !good(value):
		case last >= 0 && spans[last].High == i-1:
			spans[last].High = i
		default:
			spans = append(spans, span(i, i))
		}
	}
	return spans
}

// deepest returns the greatest draught with which a run of the need surely has room, or -1.
func (l *look) deepest(m moment) int {
	deeper := *l
	return sort.Search(api.WaterDepth+1, func(draught int) bool {
		deeper.need.Draught = draught
		return deeper.firstRun(m, surely) < 0
	}) - 1
}
