package water_test

import (
	"math"
	"slices"
	"testing"

	"windsock/api"
	"windsock/water"
)

// sweep returns the least and the greatest values of all courses, found by going through the
// day forwards and backwards, and whether there is a course.
func sweep(g api.Gauge) ([]int, []int, bool) {
	low, high := slices.Repeat([]int{g.Least}, api.WaterDay+1), slices.Repeat([]int{g.Most}, api.WaterDay+1)
	for _, r := range g.Readings {
		low[r.Minute] = max(low[r.Minute], r.Value.Low)
		high[r.Minute] = min(high[r.Minute], r.Value.High)
	}
	for m := 1; m <= api.WaterDay; m++ {
		low[m] = max(low[m], low[m-1]-g.Rate)
		high[m] = min(high[m], high[m-1]+g.Rate)
	}
	for m := api.WaterDay - 1; m >= 0; m-- {
		low[m] = max(low[m], low[m+1]-g.Rate)
		high[m] = min(high[m], high[m+1]+g.Rate)
	}
	for m := range low {
		if low[m] > high[m] {
			return nil, nil, false
		}
	}
	return low, high, true
}

// badGauges returns gauges that are not as defined.
func badGauges() []api.Gauge {
	changes := []func(*api.Gauge){
		func(g *api.Gauge) { g.Rate = -1 },
		func(g *api.Gauge) { g.Rate = api.WaterRate + 1 },
		func(g *api.Gauge) { g.Rate = math.MinInt },
		func(g *api.Gauge) { g.Least = 301 },
		func(g *api.Gauge) { g.Least = -api.WaterValue - 1 },
		func(g *api.Gauge) { g.Most = api.WaterValue + 1 },
		func(g *api.Gauge) { g.Least, g.Most = api.WaterValue+1, api.WaterValue+1 },
		func(g *api.Gauge) { g.Least, g.Most = -api.WaterValue-1, -api.WaterValue-1 },
		func(g *api.Gauge) { g.Readings[0].Minute = -1 },
		func(g *api.Gauge) { g.Readings[1].Minute = api.WaterDay + 1 },
		func(g *api.Gauge) { g.Readings[2].Value = span(121, 120) },
		func(g *api.Gauge) { g.Readings[0].Value.Low = -api.WaterValue - 1 },
		func(g *api.Gauge) { g.Readings[0].Value.High = api.WaterValue + 1 },
		func(g *api.Gauge) { g.Readings[0].Source = -1 },
		func(g *api.Gauge) { g.Readings[2].Source = api.WaterSources },
		func(g *api.Gauge) { g.Readings = slices.Repeat(g.Readings[:1], api.WaterRead+1) },
	}
	var gauges []api.Gauge
	for _, change := range changes {
		g := exampleGauge()
		change(&g)
		gauges = append(gauges, g)
	}
	return gauges
}

// TestKnown checks P1.1 (Known): each limit, and 1 beyond it.
func TestKnown(t *testing.T) {
	good := []func(*api.Gauge){
		func(*api.Gauge) {},
		func(g *api.Gauge) { *g = api.Gauge{} },
		func(g *api.Gauge) { g.Rate = 0 },
		func(g *api.Gauge) { g.Rate = api.WaterRate },
		func(g *api.Gauge) { g.Least, g.Most = -api.WaterValue, api.WaterValue },
		func(g *api.Gauge) { g.Least = g.Most },
		func(g *api.Gauge) { g.Readings = slices.Repeat(g.Readings[:1], api.WaterRead) },
		func(g *api.Gauge) { g.Readings = []api.Reading{} },
		func(g *api.Gauge) { g.Readings[0].Minute, g.Readings[1].Minute = 0, api.WaterDay },
		func(g *api.Gauge) { g.Readings[0].Value = span(-api.WaterValue, api.WaterValue) },
		func(g *api.Gauge) { g.Readings[0].Value = span(7, 7) },
		func(g *api.Gauge) { g.Readings[0].Source, g.Readings[1].Source = 0, api.WaterSources-1 },
	}
	for i, change := range good {
		g := exampleGauge()
		change(&g)
		if e := water.Known(g); e != api.OK {
			t.Error(i, e)
		}
	}
	for i, g := range badGauges() {
		if e := water.Known(g); e != api.ErrArg {
			t.Error(i, e)
		}
	}
}

// TestBadGaugesEverywhere checks the errors of P1.1 to P1.3.
func TestBadGaugesEverywhere(t *testing.T) {
	for i, g := range badGauges() {
		if water.Fits(g, slices.Repeat([]int{150}, api.WaterDay+1)) {
			t.Error(i, "fits")
		}
		if b, e := water.Bounds(g); e != api.ErrArg || len(b) != 0 {
			t.Error(i, "bounds", b, e)
		}
		if a, b, e := water.Clash(g); e != api.ErrArg || a != 0 || b != 0 {
			t.Error(i, "clash", a, b, e)
		}
		if l, e := water.Blame(g); e != api.ErrArg || len(l) != 0 {
			t.Error(i, "blame", l, e)
		}
	}
	// a gauge whose course would fit, were it as defined
	wide := api.Gauge{Least: 0, Most: api.WaterValue + 1}
	if water.Fits(wide, make([]int, api.WaterDay+1)) {
		t.Error("fits")
	}
}

// TestFits checks P1.1 (Fits).
func TestFits(t *testing.T) {
	g := api.Gauge{Rate: 3, Least: -5, Most: 10, Readings: []api.Reading{{Minute: 0, Value: span(0, 2)}, {Minute: api.WaterDay, Value: span(1, 4)}}}
	for i, x := range []struct {
		change func([]int) []int
		want   bool
	}{
		{func(c []int) []int { return c }, true},
		{func(c []int) []int { c[0] = 0; return c }, true},
		{func(c []int) []int { c[0] = -1; return c }, false},
		{func(c []int) []int { c[0] = 3; return c }, false},
		{func(c []int) []int { c[api.WaterDay] = 4; return c }, true},
		{func(c []int) []int { c[api.WaterDay] = 5; return c }, false},
		{func(c []int) []int { c[api.WaterDay] = 0; return c }, false},
		{func(c []int) []int { c[700] = 5; return c }, true},
		{func(c []int) []int { c[700] = 6; return c }, false},
		{func(c []int) []int { c[700] = -1; return c }, true},
		{func(c []int) []int { c[700] = -2; return c }, false},
		{func(c []int) []int { copy(c[700:], []int{5, 8, 10, 7, 4}); return c }, true},
		{func(c []int) []int { copy(c[700:], []int{5, 8, 11, 8, 5}); return c }, false},
		{func(c []int) []int { copy(c[700:], []int{-1, -4, -5, -2, 1}); return c }, true},
		{func(c []int) []int { copy(c[700:], []int{-1, -4, -6, -3, 0}); return c }, false},
		{func(c []int) []int { c[1] = 5; return c }, true},
		{func(c []int) []int { c[1] = 6; return c }, false},
		// too much in the first minute alone, and in the last one
		{func([]int) []int { return append([]int{1}, slices.Repeat([]int{4}, api.WaterDay)...) }, true},
		{func([]int) []int { return append([]int{0}, slices.Repeat([]int{4}, api.WaterDay)...) }, false},
		{func([]int) []int { return append(slices.Repeat([]int{0}, api.WaterDay), 3) }, true},
		{func([]int) []int { return append(slices.Repeat([]int{0}, api.WaterDay), 4) }, false},
		{func(c []int) []int { c[700], c[701] = math.MaxInt, math.MinInt; return c }, false},
		{func(c []int) []int { return c[:api.WaterDay] }, false},
		{func(c []int) []int { return append(c, 2) }, false},
		{func([]int) []int { return nil }, false},
	} {
		course := x.change(slices.Repeat([]int{2}, api.WaterDay+1))
		if is := water.Fits(g, course); is != x.want {
			t.Error(i, is)
		}
	}
	if !water.Fits(api.Gauge{}, make([]int, api.WaterDay+1)) {
		t.Error("a gauge that is always 0")
	}
}

// TestBounds checks P1.2 with the example of the chapter.
func TestBounds(t *testing.T) {
	h := exampleGauge()
	h.Readings = slices.Delete(h.Readings, 1, 2)
	b, e := water.Bounds(h)
	if e != api.OK || len(b) != api.WaterDay+1 {
		t.Fatal(len(b), e)
	}
	for minute, want := range map[int]api.Span{0: span(0, 230), 60: span(100, 110), 70: span(80, 130), 75: span(90, 140), 90: span(120, 140), api.WaterDay: span(0, 300)} {
		if b[minute] != want {
			t.Error(minute, b[minute])
		}
	}
	if b, e := water.Bounds(exampleGauge()); e != api.ErrNone || len(b) != 0 {
		t.Error(b, e)
	}
}

// TestBoundsAreCourses checks P1.2 against courses that are true.
func TestBoundsAreCourses(t *testing.T) {
	r := newRandom()
	for i := range 200 {
		g := api.Gauge{Rate: r.IntN(4), Least: -r.IntN(100), Most: r.IntN(100)}
		course := randomCourse(r, g)
		g.Readings = readingsOf(r, course, r.IntN(api.WaterRead+1), 20)
		low, high, _ := sweep(g)
		b, e := water.Bounds(g)
		if e != api.OK || len(b) != api.WaterDay+1 {
			t.Fatal(i, len(b), e)
		}
		for minute, s := range b {
			if s != span(low[minute], high[minute]) || !holds(s, course[minute]) {
				t.Fatal(i, minute, s, low[minute], high[minute], course[minute])
			}
		}
		if !water.Fits(g, low) || !water.Fits(g, high) || !water.Fits(g, course) {
			t.Error(i, "fits")
		}
	}
}

// firstClash returns the first clash by the definition.
func firstClash(g api.Gauge) (int, int, bool) {
	for i, a := range g.Readings {
		if a.Value.Low > g.Most || a.Value.High < g.Least {
			return i, i, true
		}
		for j := i + 1; j < len(g.Readings); j++ {
			b := g.Readings[j]
			apart := a.Minute - b.Minute
			if apart < 0 {
				apart = -apart
			}
			if a.Value.Low-b.Value.High > g.Rate*apart || b.Value.Low-a.Value.High > g.Rate*apart {
				return i, j, true
			}
		}
	}
	return 0, 0, false
}

// TestClash checks P1.3 (Clash).
func TestClash(t *testing.T) {
	at := func(minute, low, high int) api.Reading {
		return api.Reading{Minute: minute, Value: span(low, high)}
	}
	for i, x := range []struct {
		readings []api.Reading
		i, j     int
		want     api.Errno
	}{
		{exampleGauge().Readings, 0, 1, api.OK},
		{nil, 0, 0, api.ErrState},
		// as much as can be, and 1 more, both ways
		{[]api.Reading{at(60, 100, 110), at(80, 150, 155)}, 0, 0, api.ErrState},
		{[]api.Reading{at(60, 100, 110), at(80, 151, 155)}, 0, 1, api.OK},
		{[]api.Reading{at(80, 150, 155), at(60, 100, 110)}, 0, 0, api.ErrState},
		{[]api.Reading{at(80, 151, 155), at(60, 100, 110)}, 0, 1, api.OK},
		{[]api.Reading{at(60, 200, 210), at(80, 150, 160)}, 0, 0, api.ErrState},
		{[]api.Reading{at(60, 201, 210), at(80, 150, 160)}, 0, 1, api.OK},
		// in one minute
		{[]api.Reading{at(60, 100, 110), at(60, 110, 120)}, 0, 0, api.ErrState},
		{[]api.Reading{at(60, 100, 110), at(60, 111, 120)}, 0, 1, api.OK},
		// with itself
		{[]api.Reading{at(60, 300, 310)}, 0, 0, api.ErrState},
		{[]api.Reading{at(60, 301, 310)}, 0, 0, api.OK},
		{[]api.Reading{at(60, -10, 0)}, 0, 0, api.ErrState},
		{[]api.Reading{at(60, -10, -1)}, 0, 0, api.OK},
		{[]api.Reading{at(0, 10, 20), at(900, 301, 310), at(900, 301, 310)}, 1, 1, api.OK},
		{[]api.Reading{at(0, 10, 20), at(900, 301, 310), at(1, 100, 100)}, 0, 2, api.OK},
		{[]api.Reading{at(0, 10, 20), at(800, 10, 20), at(801, 90, 90), at(1, 90, 90)}, 0, 3, api.OK},
		{[]api.Reading{at(0, 301, 302), at(0, 10, 20)}, 0, 0, api.OK},
	} {
		g := exampleGauge()
		g.Readings = x.readings
		if a, b, e := water.Clash(g); a != x.i || b != x.j || e != x.want {
			t.Error(i, a, b, e)
		}
	}
}

// TestClashOrCourse checks P1.3: readings clash, or there is a course.
func TestClashOrCourse(t *testing.T) {
	r := newRandom()
	clashes := 0
	for i := range 1000 {
		g := api.Gauge{Rate: r.IntN(3), Least: 0, Most: 200}
		g.Readings = randomReadings(r, 6, span(-5, 205), 190)
		a, b, e := water.Clash(g)
		wantA, wantB, clash := firstClash(g)
		_, _, course := sweep(g)
		if clash == course {
			t.Fatal(i, "both or none", g)
		}
		if clash && (e != api.OK || a != wantA || b != wantB) || !clash && (e != api.ErrState || a != 0 || b != 0) {
			t.Fatal(i, a, b, e, g)
		}
		if _, e := water.Bounds(g); (e == api.OK) != course {
			t.Fatal(i, e, g)
		}
		if clash {
			clashes++
		}
	}
	if clashes < 200 || clashes > 800 {
		t.Error(clashes)
	}
}

// without returns a gauge without the readings of some sources.
func without(g api.Gauge, sources []int) api.Gauge {
	g.Readings = slices.DeleteFunc(slices.Clone(g.Readings), func(r api.Reading) bool { return slices.Contains(sources, r.Source) })
	return g
}

// leastBlame returns the least blame by the definition: all sets, in lexicographic order.
func leastBlame(g api.Gauge) []int {
	var best []int
	found := false
	var try func(set []int, next int)
	try = func(set []int, next int) {
		if _, _, course := sweep(without(g, set)); course && (!found || len(set) < len(best)) {
			best, found = slices.Clone(set), true
		}
		for source := next; source < api.WaterSources; source++ {
			try(append(slices.Clone(set), source), source+1)
		}
	}
	try(nil, 0)
	return best
}

// TestBlame checks P1.3 (Blame).
func TestBlame(t *testing.T) {
	at := func(source, low int) api.Reading {
		return api.Reading{Minute: 100, Value: span(low, low), Source: source}
	}
	for i, x := range []struct {
		readings []api.Reading
		want     []int
	}{
		{exampleGauge().Readings, []int{2}},
		{exampleGauge().Readings[:1], nil},
		{nil, nil},
		{[]api.Reading{at(5, 1), at(3, 2)}, []int{3}},
		{[]api.Reading{at(5, 1), at(5, 2)}, []int{5}},
		{[]api.Reading{at(7, 301), at(0, 1)}, []int{7}},
		// 0 or 1, and 3 or 2: the sets with 0 are first, whatever comes behind
		{[]api.Reading{{Minute: 0, Value: span(0, 0), Source: 0}, {Minute: 0, Value: span(9, 9), Source: 1}, {Minute: 900, Value: span(0, 0), Source: 3}, {Minute: 900, Value: span(9, 9), Source: 2}}, []int{0, 2}},
		// 0 and 3 or 1 and 2
		{[]api.Reading{{Minute: 0, Value: span(0, 0), Source: 0}, {Minute: 0, Value: span(9, 9), Source: 1}, {Minute: 300, Value: span(0, 0), Source: 0}, {Minute: 300, Value: span(9, 9), Source: 2}, {Minute: 600, Value: span(0, 0), Source: 3}, {Minute: 600, Value: span(9, 9), Source: 1}, {Minute: 900, Value: span(0, 0), Source: 3}, {Minute: 900, Value: span(9, 9), Source: 2}}, []int{0, 3}},
		// one reading of each source, all of them different
		{[]api.Reading{at(0, 10), at(1, 11), at(2, 12), at(3, 13), at(4, 14), at(5, 15), at(6, 16), at(7, 17)}, []int{0, 1, 2, 3, 4, 5, 6}},
		{[]api.Reading{at(0, 310), at(1, 311), at(2, 312), at(3, 313), at(4, 314), at(5, 315), at(6, 316), at(7, 317)}, []int{0, 1, 2, 3, 4, 5, 6, 7}},
	} {
		g := exampleGauge()
		g.Readings = x.readings
		if l, e := water.Blame(g); e != api.OK || !slices.Equal(l, x.want) {
			t.Error(i, l, e)
		}
	}
}

// TestBlameIsLeast checks P1.3 (Blame) against all sets of sources.
func TestBlameIsLeast(t *testing.T) {
	r := newRandom()
	sizes := map[int]int{}
	for i := range 60 {
		g := api.Gauge{Rate: r.IntN(2), Least: 0, Most: 100}
		g.Readings = randomReadings(r, 12, span(0, 100), 60)
		want := leastBlame(g)
		if l, e := water.Blame(g); e != api.OK || !slices.Equal(l, want) {
			t.Fatal(i, l, want, e)
		}
		sizes[len(want)]++
	}
	if sizes[0] == 0 || sizes[1] == 0 || sizes[2] == 0 {
		t.Error(sizes)
	}
}

// TestBlameSparesTheTrue checks P1.3: no more are blamed than are wrong.
func TestBlameSparesTheTrue(t *testing.T) {
	r := newRandom()
	for i := range 200 {
		g := api.Gauge{Rate: r.IntN(3), Least: -50, Most: 50}
		g.Readings = readingsOf(r, randomCourse(r, g), api.WaterRead, 5)
		liars := r.IntN(4)
		for k := range g.Readings {
			if g.Readings[k].Source < liars {
				g.Readings[k].Value = part(r, span(-60, 60), 10)
			}
		}
		l, e := water.Blame(g)
		if e != api.OK || len(l) > liars {
			t.Error(i, l, liars, e)
		}
		if _, e := water.Bounds(without(g, l)); e != api.OK {
			t.Error(i, l, e)
		}
	}
}
