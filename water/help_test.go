package water_test

import (
	"math/rand/v2"

	"windsock/api"
)

func span(low, high int) api.Span { return api.Span{Low: low, High: high} }

func holds(s api.Span, x int) bool { return s.Low <= x && x <= s.High }

// newRandom returns numbers that are the same in each run.
func newRandom() *rand.Rand { return rand.New(rand.NewPCG(11, 27)) }

// within returns a number of a span.
func within(r *rand.Rand, s api.Span) int { return s.Low + r.IntN(s.High-s.Low+1) }

// part returns a span within a span, and at most so wide.
func part(r *rand.Rand, s api.Span, wide int) api.Span {
	low := within(r, s)
	return span(low, min(s.High, low+r.IntN(wide+1)))
}

// exampleGauge is the gauge g of the chapter.
func exampleGauge() api.Gauge {
	return api.Gauge{Rate: 2, Least: 0, Most: 300, Readings: []api.Reading{
		{Minute: 60, Value: span(100, 110), Source: 1},
		{Minute: 80, Value: span(170, 175), Source: 2},
		{Minute: 90, Value: span(120, 140), Source: 3},
	}}
}

// exampleSea is the sea s of the chapter.
func exampleSea() api.Sea {
	return api.Sea{
		Chart: api.Chart{Wide: 4, Deep: 1, Depths: []api.Span{span(100, 120), span(150, 160), span(90, 200), span(300, 300)}},
		Weather: api.Weather{
			Tide:  api.Gauge{Least: 50, Most: 60},
			East:  api.Gauge{Least: -20, Most: 30},
			North: api.Gauge{Least: -10, Most: 10},
			Wave:  api.Gauge{Least: 5, Most: 20},
			Swell: api.Gauge{Least: 0, Most: 10},
		},
		Boats:  []api.Boat{{X: span(3, 3), Y: span(0, 0), Times: span(600, 700)}},
		Glares: []api.Glare{{Way: api.WaterE, Times: span(0, 100)}},
	}
}

func exampleStrip() api.Strip { return api.Strip{Way: api.WaterE, Cells: 4} }

func exampleNeed() api.Need {
	return api.Need{Draught: 140, Run: 2, Cross: 15, Tail: 30, Calm: 5, Wave: 20, Swell: 20}
}

// exampleTruth is a truth that agrees with the sea s.
func exampleTruth() api.Truth {
	return api.Truth{Minute: 300, Tide: 55, East: 10, North: 10, Wave: 7, Swell: 3, Depths: []int{110, 155, 100, 300}, Boats: []bool{false}}
}

// clashing returns a gauge that is as defined, and has no course.
func clashing(g api.Gauge) api.Gauge {
	g.Readings = []api.Reading{{Minute: 7, Value: span(g.Most+1, g.Most+2)}}
	return g
}

// stillSea returns a sea of one depth, without wind, waves, boats and glares.
func stillSea(wide, deep, depth int) api.Sea {
	s := api.Sea{Chart: api.Chart{Wide: wide, Deep: deep}}
	for range wide * deep {
		s.Depths = append(s.Depths, span(depth, depth))
	}
	return s
}

// easyNeed returns a need that asks for a run of some cells, and for nothing else.
func easyNeed(run int) api.Need {
	return api.Need{Run: run, Cross: api.WaterWind, Tail: api.WaterWind, Wave: api.WaterWave, Swell: api.WaterWave}
}

// copyOf returns a sea that shares no memory with another one.
func copyOf(s api.Sea) api.Sea {
	s.Depths = append([]api.Span(nil), s.Depths...)
	s.Boats = append([]api.Boat(nil), s.Boats...)
	s.Glares = append([]api.Glare(nil), s.Glares...)
	for _, g := range gaugesOf(&s.Weather) {
		g.Readings = append([]api.Reading(nil), g.Readings...)
	}
	return s
}

func gaugesOf(w *api.Weather) []*api.Gauge {
	return []*api.Gauge{&w.Tide, &w.East, &w.North, &w.Wave, &w.Swell}
}

// randomReadings returns some readings of values between some bounds.
func randomReadings(r *rand.Rand, most int, values api.Span, wide int) []api.Reading {
	var readings []api.Reading
	for range r.IntN(most + 1) {
		readings = append(readings, api.Reading{Minute: r.IntN(api.WaterDay + 1), Value: part(r, values, wide), Source: r.IntN(api.WaterSources)})
	}
	return readings
}

// randomCourse returns a course of a gauge without readings.
func randomCourse(r *rand.Rand, g api.Gauge) []int {
	course := []int{within(r, span(g.Least, g.Most))}
	for len(course) <= api.WaterDay {
		last := course[len(course)-1]
		course = append(course, within(r, span(max(g.Least, last-g.Rate), min(g.Most, last+g.Rate))))
	}
	return course
}

// readingsOf returns readings that are true of a course.
func readingsOf(r *rand.Rand, course []int, count, wide int) []api.Reading {
	var readings []api.Reading
	for range count {
		minute := r.IntN(len(course))
		value := span(course[minute]-r.IntN(wide+1), course[minute]+r.IntN(wide+1))
		readings = append(readings, api.Reading{Minute: minute, Value: value, Source: r.IntN(api.WaterSources)})
	}
	return readings
}

// knownGauge returns a gauge between some bounds, not wide ones, with readings of a course.
func knownGauge(r *rand.Rand, bounds api.Span, wide int) api.Gauge {
	always := part(r, bounds, wide)
	g := api.Gauge{Rate: r.IntN(3), Least: always.Low, Most: always.High}
	g.Readings = readingsOf(r, randomCourse(r, g), r.IntN(6), 2)
	return g
}

// smallSea returns a sea with which few truths agree in each minute.
func smallSea(r *rand.Rand) api.Sea {
	s := stillSea(1+r.IntN(3), 1+r.IntN(3), 0)
	for i := range s.Depths {
		s.Depths[i] = part(r, span(0, 5), 0)
	}
	for range 3 {
		s.Depths[r.IntN(len(s.Depths))] = part(r, span(0, 5), 2)
	}
	s.Tide = knownGauge(r, span(-1, 2), 2)
	s.East, s.North = knownGauge(r, span(-5, 5), 4), knownGauge(r, span(-5, 5), 4)
	s.Wave, s.Swell = knownGauge(r, span(0, 5), 2), knownGauge(r, span(0, 5), 2)
	for range r.IntN(3) {
		s.Boats = append(s.Boats, api.Boat{X: part(r, span(0, s.Wide-1), 1), Y: part(r, span(0, s.Deep-1), 1), Times: part(r, span(0, api.WaterDay), 900), Sure: r.IntN(2) == 0})
	}
	if r.IntN(3) == 0 {
		s.Glares = []api.Glare{{Way: api.Compass(1 + r.IntN(8)), Times: part(r, span(0, api.WaterDay), 700)}}
	}
	return s
}

// stepOf returns the step of a direction.
func stepOf(way api.Compass) (int, int) {
	switch way {
	case api.WaterN:
		return 0, 1
	case api.WaterNE:
		return 1, 1
	case api.WaterE:
		return 1, 0
	case api.WaterSE:
		return 1, -1
	case api.WaterS:
		return 0, -1
	case api.WaterSW:
		return -1, -1
	case api.WaterW:
		return -1, 0
	}
	return -1, 1
}

// smallStrip returns a strip of a chart.
func smallStrip(r *rand.Rand, c api.Chart) api.Strip {
	p := api.Strip{X: r.IntN(c.Wide), Y: r.IntN(c.Deep), Way: api.Compass(1 + r.IntN(8)), Cells: 1}
	dx, dy := stepOf(p.Way)
	for x, y := p.X+dx, p.Y+dy; x >= 0 && x < c.Wide && y >= 0 && y < c.Deep; x, y = x+dx, y+dy {
		p.Cells++
	}
	return p
}

// smallNeed returns a need that a small sea meets now and then.
func smallNeed(r *rand.Rand) api.Need {
	calm := max(0, r.IntN(5)-2)
	return api.Need{Draught: r.IntN(5), Run: 1 + r.IntN(2), Cross: 2 + r.IntN(9), Tail: 1 + r.IntN(9), Calm: calm, Wave: calm + 2 + r.IntN(4), Swell: 2 + r.IntN(5)}
}
