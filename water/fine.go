package water

import "windsock/api"

// The functions of this file report whether something is as the chapter defines it.

func span(low, high int) api.Span { return api.Span{Low: low, High: high} }

func holds(s api.Span, x int) bool { return s.Low <= x && x <= s.High }

// spanFine reports whether a span is one of numbers that another span holds.
func spanFine(s, all api.Span) bool {
	return all.Low <= s.Low && s.Low <= s.High && s.High <= all.High
}

func minuteFine(minute int) bool { return holds(span(0, api.WaterDay), minute) }

func timesFine(times api.Span) bool { return spanFine(times, span(0, api.WaterDay)) }

func wayFine(way api.Compass) bool { return way >= api.WaterN && way <= api.WaterNW }

// gaugeFine reports whether a gauge is as defined, and always between some bounds.
func gaugeFine(g api.Gauge, bounds api.Span) bool {
	if !holds(span(0, api.WaterRate), g.Rate) || !spanFine(span(g.Least, g.Most), bounds) || len(g.Readings) > api.WaterRead {
		return false
	}
	for _, r := range g.Readings {
		if !readingFine(r) {
			return false
		}
	}
	return true
}

func readingFine(r api.Reading) bool {
	return minuteFine(r.Minute) &&
		spanFine(r.Value, span(-api.WaterValue, api.WaterValue)) &&
		holds(span(0, api.WaterSources-1), r.Source)
}

func weatherFine(w api.Weather) bool {
	tide := span(-api.WaterTide, api.WaterTide)
	wind := span(-api.WaterWind, api.WaterWind)
	wave := span(0, api.WaterWave)
	return gaugeFine(w.Tide, tide) && gaugeFine(w.East, wind) && gaugeFine(w.North, wind) &&
		gaugeFine(w.Wave, wave) && gaugeFine(w.Swell, wave)
}

func chartFine(c api.Chart) bool {
	size := span(1, api.WaterGrid)
	if !holds(size, c.Wide) || !holds(size, c.Deep) || len(c.Depths) != c.Wide*c.Deep {
		return false
	}
	for _, depth := range c.Depths {
		if !spanFine(depth, span(-api.WaterDepth, api.WaterDepth)) {
			return false
		}
	}
	return true
}

func boatFine(c api.Chart, b api.Boat) bool {
	return spanFine(b.X, span(0, c.Wide-1)) && spanFine(b.Y, span(0, c.Deep-1)) && timesFine(b.Times)
}

func glareFine(g api.Glare) bool { return wayFine(g.Way) && timesFine(g.Times) }

func seaFine(s api.Sea) bool {
	if !chartFine(s.Chart) || !weatherFine(s.Weather) || len(s.Boats) > api.WaterBoats || len(s.Glares) > api.WaterGlares {
		return false
	}
	for _, b := range s.Boats {
		if !boatFine(s.Chart, b) {
			return false
		}
	}
	for _, g := range s.Glares {
		if !glareFine(g) {
			return false
		}
	}
	return true
}

// stripFine reports whether a strip is one of a chart that is as defined.
func stripFine(c api.Chart, p api.Strip) bool {
	wide, deep := span(0, c.Wide-1), span(0, c.Deep-1)
	if !wayFine(p.Way) || !holds(span(1, api.WaterGrid), p.Cells) || !holds(wide, p.X) || !holds(deep, p.Y) {
		return false
	}
	x, y := cellOf(p, p.Cells-1)
	return holds(wide, x) && holds(deep, y)
}

func needFine(n api.Need) bool {
	wind := span(0, api.WaterWind)
	wave := span(0, api.WaterWave)
	return holds(span(0, api.WaterDepth), n.Draught) && holds(span(1, api.WaterGrid), n.Run) &&
		holds(wind, n.Cross) && holds(wind, n.Tail) &&
		spanFine(span(n.Calm, n.Wave), wave) && holds(wave, n.Swell)
}

// truthFine reports whether a truth is as defined for a sea that is so.
func truthFine(s api.Sea, t api.Truth) bool {
	if !minuteFine(t.Minute) || len(t.Depths) != len(s.Depths) || len(t.Boats) != len(s.Boats) {
		return false
	}
	return numbersFine(t.Tide, t.East, t.North, t.Wave, t.Swell) && numbersFine(t.Depths...)
}

func numbersFine(numbers ...int) bool {
	for _, x := range numbers {
		if !holds(span(-api.WaterValue, api.WaterValue), x) {
			return false
		}
	}
	return true
}
