package run

import (
	"cmp"
	"slices"

	"windsock/api"
)

// The functions of this file report whether something is as the chapter defines it.

func span(low, high int) api.Span { return api.Span{Low: low, High: high} }

func exactly(x int) api.Span { return span(x, x) }

func holds(s api.Span, x int) bool { return s.Low <= x && x <= s.High }

// spanFine reports whether a span is one of numbers that another span holds.
func spanFine(s, all api.Span) bool {
	return all.Low <= s.Low && s.Low <= s.High && s.High <= all.High
}

func metresFine(metres int) bool { return holds(span(0, api.RunMetres), metres) }

func weightsFine(weight api.Span) bool { return spanFine(weight, span(0, api.RunWeight)) }

// wavesFine reports whether spans of winds along a run and of waves are as defined.
func wavesFine(along, wave api.Span) bool {
	return spanFine(along, span(-2*api.RunWind, 2*api.RunWind)) && spanFine(wave, span(0, api.RunWave))
}

func kindFine(k api.RunKind) bool { return k == api.RunOff || k == api.RunOn }

func courseFine(way api.Compass) bool { return way >= api.WaterN && way <= api.WaterNW }

func airFine(a api.Air) bool {
	wind := span(-api.RunWind, api.RunWind)
	return spanFine(a.East, wind) && spanFine(a.North, wind)
}

func craftFine(c api.Craft) bool {
	by, drag := span(1000, api.RunFactor), span(0, api.RunDrag)
	return tableFine(c.Off, rising) && tableFine(c.On, rising) && tableFine(c.Ceilings, falling) &&
		spanFine(span(c.Glass, c.Rough), span(0, api.RunWave)) && holds(by, c.GlassBy) && holds(by, c.RoughBy) &&
		holds(drag, c.Head) && holds(drag, c.Tail) && holds(drag, c.Drag) &&
		holds(span(1, 2), c.Engines) && holds(span(1, api.RunMetres), c.Fall) && metresFine(c.Sink)
}

func rising(a, b api.RunRow) int { return cmp.Compare(a.Metres, b.Metres) }

func falling(a, b api.RunRow) int { return rising(b, a) }

// tableFine reports whether a table is as defined, with its metres in some order.
func tableFine(rows []api.RunRow, order func(a, b api.RunRow) int) bool {
	if !holds(span(1, api.RunRows), len(rows)) {
		return false
	}
	before := -1
	for _, row := range rows {
		if !holds(span(before+1, api.RunWeight), row.Weight) || !metresFine(row.Metres) {
			return false
		}
		before = row.Weight
	}
	return slices.IsSortedFunc(rows, order)
}

func landFine(l api.Land) bool {
	size := span(1, api.RunGrid)
	if !holds(size, l.Wide) || !holds(size, l.Deep) || !metresFine(l.Clear) {
		return false
	}
	for _, ground := range l.Ground {
		if !metresFine(ground) {
			return false
		}
	}
	return len(l.Ground) == l.Wide*l.Deep && len(l.Water) == len(l.Ground)
}

// cellsFine reports whether cells are on a map that is as defined.
func cellsFine(l api.Land, cells ...int) bool {
	for _, cell := range cells {
		if !holds(span(0, l.Wide*l.Deep-1), cell) {
			return false
		}
	}
	return true
}

// legFine reports whether points are as defined for a map that is so.
func legFine(l api.Land, leg []api.Fix) bool {
	for _, point := range leg {
		if !cellsFine(l, point.Cell) || !metresFine(point.Height) || !weightsFine(point.Weight) {
			return false
		}
	}
	return true
}
