// Package water is layer 1: see shared/doc/01-water.md.
package water

import "windsock/api"

// Check returns the error of a sea.
func Check(s api.Sea) api.Errno {
	if !seaFine(s) {
		return api.ErrArg
	}
	return api.OK
}

// Known returns the error of a gauge.
func Known(g api.Gauge) api.Errno {
	if !gaugeFine(g, span(-api.WaterValue, api.WaterValue)) {
		return api.ErrArg
	}
	return api.OK
}

// Fits reports whether numbers are a course of a gauge.
func Fits(g api.Gauge, course []int) bool {
	if Known(g) != api.OK || len(course) != api.WaterDay+1 {
		return false
	}
	for minute := range minutes {
		value := course[minute]
		if !holds(span(g.Least, g.Most), value) {
			return false
		}
		if minute > 0 && distance(value, course[minute-1]) > g.Rate {
			return false
		}
	}
	for _, r := range g.Readings {
		if !holds(r.Value, course[r.Minute]) {
			return false
		}
	}
	return true
}

// Bounds returns the bounds of a gauge, minute by minute.
func Bounds(g api.Gauge) ([]api.Span, api.Errno) {
	if Known(g) != api.OK {
		return nil, api.ErrArg
	}
	if !hasCourse(g) {
		return nil, api.ErrNone
	}
	var bounds []api.Span
	for minute := range minutes {
		bounds = append(bounds, boundsAt(g, minute))
	}
	return bounds, api.OK
}

// Clash returns the first clash of the readings of a gauge.
func Clash(g api.Gauge) (int, int, api.Errno) {
	if Known(g) != api.OK {
		return 0, 0, api.ErrArg
	}
	i, j, found := firstClash(g)
	if !found {
		return 0, 0, api.ErrState
	}
	return i, j, api.OK
}

// Blame returns the least blame.
func Blame(g api.Gauge) ([]int, api.Errno) {
	if Known(g) != api.OK {
		return nil, api.ErrArg
	}
	var sources []int
	blamed := leastBlame(g)
	for source := range api.WaterSources {
		if blamed.has(source) {
			sources = append(sources, source)
		}
	}
	return sources, api.OK
}

// Usable reports whether a strip is usable in a truth.
func Usable(s api.Sea, t api.Truth, p api.Strip, n api.Need) (bool, api.Errno) {
	if !seaFine(s) || !truthFine(s, t) || !stripFine(s.Chart, p) || !needFine(n) {
		return false, api.ErrArg
	}
	l := &look{Sea: certain(s, t), strip: p, need: n}
	return l.judge(l.moment(t.Minute)) == surely, api.OK
}

// Sure returns the offset of the first run that is good, if a strip is surely usable in a minute.
func Sure(s api.Sea, p api.Strip, n api.Need, minute int) (int, api.Errno) {
	l, e := lookAt(s, p, n, minute)
	if e != api.OK {
		return 0, e
	}
	m := l.moment(minute)
	if l.judge(m) != surely {
		return 0, api.ErrRule
	}
	return l.firstRun(m, surely), api.OK
}

// Possible reports whether a strip is possibly usable in a minute.
func Possible(s api.Sea, p api.Strip, n api.Need, minute int) (bool, api.Errno) {
	l, e := lookAt(s, p, n, minute)
	if e != api.OK {
		return false, e
	}
	return l.judge(l.moment(minute)) >= perhaps, api.OK
}

// Windows returns the windows in which a strip is surely, and possibly, usable.
func Windows(s api.Sea, p api.Strip, n api.Need) ([]api.Span, []api.Span, api.Errno) {
	l, e := lookAt(s, p, n, 0)
	if e != api.OK {
		return nil, nil, e
	}
	verdicts := l.day()
	return windowsOf(verdicts, surely), windowsOf(verdicts, perhaps), api.OK
}

// Deepest returns the greatest draught with which a run of some cells is surely deep enough.
func Deepest(s api.Sea, p api.Strip, run, minute int) (int, api.Errno) {
	if !seaFine(s) || !stripFine(s.Chart, p) || !holds(span(1, api.WaterGrid), run) || !minuteFine(minute) {
		return 0, api.ErrArg
	}
	if !hasCourse(s.Tide) {
		return 0, api.ErrNone
	}
	l := &look{Sea: s, strip: p, need: api.Need{Run: run}}
	draught := l.deepest(l.moment(minute))
	if draught < 0 {
		return 0, api.ErrRule
	}
	return draught, api.OK
}

// Best returns the strip that is surely usable in the most minutes, and in how many.
func Best(s api.Sea, l []api.Strip, n api.Need) (int, int, api.Errno) {
	if len(l) > api.WaterStrips {
		return 0, 0, api.ErrLong
	}
	if !seaFine(s) || !needFine(n) {
		return 0, 0, api.ErrArg
	}
	for _, p := range l {
		if !stripFine(s.Chart, p) {
			return 0, 0, api.ErrArg
		}
	}
	if !haveCourses(s.Weather) {
		return 0, 0, api.ErrNone
	}
	best, most := 0, 0
	for i, p := range l {
		if count := (&look{Sea: s, strip: p, need: n}).sureMinutes(); count > most {
			best, most = i, count
		}
	}
	if most == 0 {
		return 0, 0, api.ErrRule
	}
	return best, most, api.OK
}

// Print returns the file of weather.
func Print(w api.Weather) (string, api.Errno) {
	if !weatherFine(w) {
		return "", api.ErrArg
	}
	return fileOf(w), api.OK
}

// Read returns the weather of a file.
func Read(text string) (api.Weather, api.Errno) {
	if len(text) > api.WaterText {
		return api.Weather{}, api.ErrLong
	}
	w, is := weatherOf(text)
	if !is {
		return api.Weather{}, api.ErrText
	}
	if !weatherFine(w) {
		return api.Weather{}, api.ErrArg
	}
	return w, api.OK
}
