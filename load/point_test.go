package load_test

import (
	"math"
	"reflect"
	"slices"
	"testing"

	"windsock/api"
	"windsock/load"
)

const tripKilos = 6 * api.LoadKilos

// badPoints returns points that are not as defined for the chapter's plane.
func badPoints() []api.LoadPoint {
	changes := []func(*api.LoadPoint){
		func(x *api.LoadPoint) { x.Items[0].Station = -1 },
		func(x *api.LoadPoint) { x.Items[1].Station = 2 },
		func(x *api.LoadPoint) { x.Items[0].Weight = span(-1, 0) },
		func(x *api.LoadPoint) { x.Items[1].Weight = span(5, 4) },
		func(x *api.LoadPoint) { x.Items[1].Weight = span(5, api.LoadKilos+1) },
		func(x *api.LoadPoint) { x.Items = make([]api.LoadItem, api.LoadItems+1) },
		func(x *api.LoadPoint) { x.Tank = span(100, 99) },
		func(x *api.LoadPoint) { x.Tank.Low = -tripKilos - 1 },
		func(x *api.LoadPoint) { x.Tank.High = api.LoadKilos + tripKilos + 1 },
		func(x *api.LoadPoint) { x.Tank = span(math.MinInt, math.MaxInt) },
		func(x *api.LoadPoint) { x.Water = nil },
		func(x *api.LoadPoint) { x.Water = x.Water[:1] },
		func(x *api.LoadPoint) { x.Water = append(x.Water, span(0, 0)) },
		func(x *api.LoadPoint) { x.Water[0] = span(-1, 0) },
		func(x *api.LoadPoint) { x.Water[1] = span(1, 0) },
		func(x *api.LoadPoint) { x.Water[1] = span(0, tripKilos+1) },
	}
	var points []api.LoadPoint
	for _, change := range changes {
		x := examplePoint()
		change(&x)
		points = append(points, x)
	}
	return points
}

// TestPointsNotDefined checks the errors of P2.1 (Bounds) and P2.2.
func TestPointsNotDefined(t *testing.T) {
	try := func(i int, p api.Plane, x api.LoadPoint) {
		if b, e := load.Bounds(p, x); e != api.ErrArg || b != (api.LoadBounds{}) {
			t.Error(i, b, e)
		}
		if rule, index, c, e := load.Sure(p, x); e != api.ErrArg || rule != 0 || index != 0 || !reflect.DeepEqual(c, api.LoadCase{}) {
			t.Error(i, rule, index, c, e)
		}
	}
	for i, x := range badPoints() {
		try(i, examplePlane(), x)
	}
	for i, p := range badPlanes() {
		x := examplePoint()
		x.Water = make([]api.Span, len(p.Floats))
		try(i, p, x)
	}
	p := examplePlane()
	p.Stations = nil
	try(0, p, examplePoint())
}

// TestBounds checks P2.1 (Bounds).
func TestBounds(t *testing.T) {
	if b, e := load.Bounds(examplePlane(), examplePoint()); e != api.OK || b.Weight != span(1270, 1350) || b.Moment != span(138300, 150100) {
		t.Error(b, e)
	}
	// the widest bounds of all
	p, x := examplePlane(), examplePoint()
	arm := api.LoadStation{Arm: api.LoadArm}
	p.Empty, p.Moment, p.Tank = api.LoadKilos, api.LoadMoment, arm
	p.Stations, p.Floats = []api.LoadStation{arm}, []api.LoadStation{arm, arm}
	x.Items = slices.Repeat([]api.LoadItem{{Weight: span(0, api.LoadKilos)}}, api.LoadItems)
	x.Tank, x.Water = span(-tripKilos, api.LoadKilos+tripKilos), []api.Span{span(0, tripKilos), span(0, tripKilos)}
	want := span(api.LoadKilos-tripKilos, api.LoadKilos+12*api.LoadKilos+7*api.LoadKilos+12*api.LoadKilos)
	if b, e := load.Bounds(p, x); e != api.OK || b.Weight != want || b.Moment != span(1000*want.Low, 1000*want.High) {
		t.Error(b, e)
	}
	r := newRandom()
	for i := range 1000 {
		p := smallPlane(r)
		x := smallPoint(r, p)
		b, e := load.Bounds(p, x)
		var weights, moments []int
		for _, c := range cases(x) {
			sum := loadOf(p, x, c)
			weights, moments = append(weights, sum.Weight), append(moments, sum.Moment)
		}
		weight, moment := span(slices.Min(weights), slices.Max(weights)), span(slices.Min(moments), slices.Max(moments))
		if e != api.OK || b.Weight != weight || b.Moment != moment {
			t.Fatal(i, p, x, b, e)
		}
	}
}

// worstOf returns the worst case of a rule, as the chapter defines it.
func worstOf(p api.Plane, x api.LoadPoint, b breach) api.LoadCase {
	end := func(s api.Span, high bool) int {
		if high {
			return s.High
		}
		return s.Low
	}
	high := func(arm int) bool {
		if b.rule != api.LoadOut {
			return b.rule == api.LoadHeavy
		}
		from, to := p.Corners[b.index], p.Corners[(b.index+1)%len(p.Corners)]
		return (to.Weight-from.Weight)*arm-(to.Moment-from.Moment) < 0
	}
	var c api.LoadCase
	for _, item := range x.Items {
		c.Items = append(c.Items, end(item.Weight, high(p.Stations[item.Station].Arm) || b == breach{api.LoadOver, item.Station}))
	}
	c.Tank = end(x.Tank, high(p.Tank.Arm) || b.rule == api.LoadFull)
	for i, s := range x.Water {
		c.Water = append(c.Water, end(s, high(p.Floats[i].Arm) || b == breach{api.LoadWet, i}))
	}
	return c
}

// TestSureExamples checks P2.2: each rule, at its limit and 1 beyond it.
func TestSureExamples(t *testing.T) {
	b := api.LoadPoint{Items: []api.LoadItem{{Station: 1, Weight: span(200, 290)}}, Tank: exactly(200), Water: []api.Span{span(0, 10), span(0, 10)}}
	for i, one := range []struct {
		plane func(*api.Plane)
		point func(*api.LoadPoint)
		want  breach
		worst api.LoadCase
	}{
		{want: breach{api.LoadFine, 0}},
		{point: func(x *api.LoadPoint) { *x = b }, want: breach{api.LoadOut, 2}, worst: api.LoadCase{Items: []int{290}, Tank: 200, Water: []int{0, 0}}},
		{plane: func(p *api.Plane) { p.Stations[0].Most = 90 }, want: breach{api.LoadFine, 0}},
		{plane: func(p *api.Plane) { p.Stations[0].Most = 89 }, want: breach{api.LoadOver, 0}, worst: api.LoadCase{Items: []int{90, 100}, Tank: 100, Water: []int{0, 0}}},
		{plane: func(p *api.Plane) { p.Stations[1].Most = 139 }, want: breach{api.LoadOver, 1}, worst: api.LoadCase{Items: []int{70, 140}, Tank: 100, Water: []int{0, 0}}},
		{plane: func(p *api.Plane) { p.Stations[0].Most, p.Stations[1].Most, p.Tank.Most = 0, 0, 0 }, want: breach{api.LoadOver, 0}, worst: api.LoadCase{Items: []int{90, 100}, Tank: 100, Water: []int{0, 0}}},
		{plane: func(p *api.Plane) { p.Tank.Most = 100 }, want: breach{api.LoadFine, 0}},
		{plane: func(p *api.Plane) { p.Tank.Most, p.Floats[0].Most = 99, 0 }, want: breach{api.LoadFull, 0}, worst: api.LoadCase{Items: []int{70, 100}, Tank: 100, Water: []int{0, 0}}},
		{plane: func(p *api.Plane) { p.Floats[0].Most, p.Floats[1].Most = 10, 10 }, want: breach{api.LoadFine, 0}},
		{plane: func(p *api.Plane) { p.Floats[0].Most, p.Floats[1].Most, p.Takeoff = 9, 9, 0 }, want: breach{api.LoadWet, 0}, worst: api.LoadCase{Items: []int{70, 100}, Tank: 100, Water: []int{10, 0}}},
		{plane: func(p *api.Plane) { p.Floats[1].Most = 9 }, want: breach{api.LoadWet, 1}, worst: api.LoadCase{Items: []int{70, 100}, Tank: 100, Water: []int{0, 10}}},
		{plane: func(p *api.Plane) { p.Takeoff, p.Landing = 1350, 0 }, want: breach{api.LoadFine, 0}},
		{plane: func(p *api.Plane) { p.Takeoff = 1349 }, want: breach{api.LoadHeavy, 0}, worst: api.LoadCase{Items: []int{90, 140}, Tank: 100, Water: []int{10, 10}}},
		{plane: func(p *api.Plane) { p.Takeoff, p.Landing = 0, 1350 }, point: func(x *api.LoadPoint) { x.Landing = true }, want: breach{api.LoadFine, 0}},
		{plane: func(p *api.Plane) { p.Landing, p.Corners = 1349, round(3) }, point: func(x *api.LoadPoint) { x.Landing = true }, want: breach{api.LoadHeavy, 0}, worst: api.LoadCase{Items: []int{90, 140}, Tank: 100, Water: []int{10, 10}}},
		{point: func(x *api.LoadPoint) { x.Tank = span(40, 60); x.Landing = true }, want: breach{api.LoadFine, 0}},
		{point: func(x *api.LoadPoint) { x.Tank = span(39, 60); x.Landing = true }, want: breach{api.LoadShort, 0}, worst: api.LoadCase{Items: []int{70, 100}, Tank: 39, Water: []int{0, 0}}},
		{point: func(x *api.LoadPoint) { x.Tank = span(39, 60) }, want: breach{api.LoadFine, 0}},
		{plane: func(p *api.Plane) { p.Corners = round(3) }, point: func(x *api.LoadPoint) { x.Tank = span(39, 60); x.Landing = true }, want: breach{api.LoadOut, 2}, worst: api.LoadCase{Items: []int{90, 140}, Tank: 60, Water: []int{10, 10}}},
	} {
		p, x := examplePlane(), examplePoint()
		if one.plane != nil {
			one.plane(&p)
		}
		if one.point != nil {
			one.point(&x)
		}
		if rule, index, worst, e := load.Sure(p, x); e != api.OK || (breach{rule, index}) != one.want || !sameCase(worst, one.worst) {
			t.Error(i, rule, index, worst, e)
		}
	}
}

func sameCase(one, other api.LoadCase) bool {
	return slices.Equal(one.Items, other.Items) && one.Tank == other.Tank && slices.Equal(one.Water, other.Water)
}

// TestSureWithoutLean checks P2.2: what lies along an edge has its Low in the worst case.
func TestSureWithoutLean(t *testing.T) {
	p, x := examplePlane(), examplePoint()
	p.Stations[0].Arm, p.Moment = 95, 50000
	want := api.LoadCase{Items: []int{70, 100}, Tank: 100, Water: []int{0, 0}}
	if rule, index, worst, e := load.Sure(p, x); e != api.OK || rule != api.LoadOut || index != 0 || !sameCase(worst, want) {
		t.Error(rule, index, worst, e)
	}
	// at the edge 1, of one weight, no arm matters, and less of everything is worse at the edge 3
	p, x = examplePlane(), examplePoint()
	p.Takeoff, p.Empty, p.Moment = api.LoadKilos, 1660, 170000
	want = api.LoadCase{Items: []int{90, 140}, Tank: 100, Water: []int{10, 10}}
	p.Stations[1].Arm = 100
	if rule, index, worst, e := load.Sure(p, x); e != api.OK || rule != api.LoadOut || index != 1 || !sameCase(worst, want) {
		t.Error(rule, index, worst, e)
	}
	p.Empty, p.Moment = 700, 71000
	want = api.LoadCase{Items: []int{70, 100}, Tank: 100, Water: []int{0, 0}}
	if rule, index, worst, e := load.Sure(p, x); e != api.OK || rule != api.LoadOut || index != 3 || !sameCase(worst, want) {
		t.Error(rule, index, worst, e)
	}
}

// TestSureSmall checks P2.2 against all loads in truth.
func TestSureSmall(t *testing.T) {
	r := newRandom()
	count := map[api.LoadRule]int{}
	for i := range 8000 {
		p := smallPlane(r)
		x := smallPoint(r, p)
		want := firstBreach(p, x)
		rule, index, worst, e := load.Sure(p, x)
		count[rule]++
		if e != api.OK || (breach{rule, index}) != want {
			t.Fatal(i, p, x, rule, index, e, want)
		}
		if rule == api.LoadFine {
			if !reflect.DeepEqual(worst, api.LoadCase{}) {
				t.Fatal(i, worst)
			}
			continue
		}
		if !sameCase(worst, worstOf(p, x, want)) || !slices.Contains(breachesOf(p, x, worst), want) {
			t.Fatal(i, p, x, want, worst)
		}
		for k, w := range worst.Items {
			if !holds(x.Items[k].Weight, w) {
				t.Fatal(i, worst)
			}
		}
	}
	for rule := api.LoadFine; rule <= api.LoadShort; rule++ {
		if count[rule] < 50 {
			t.Error(rule, count[rule])
		}
	}
}

// TestSureOfNothing checks P2.2 for a plane without stations and floats.
func TestSureOfNothing(t *testing.T) {
	p := examplePlane()
	p.Stations, p.Floats, p.Empty, p.Moment = nil, nil, 1100, 110000
	if rule, index, worst, e := load.Sure(p, api.LoadPoint{Water: []api.Span{}}); e != api.OK || rule != api.LoadFine || index != 0 || !sameCase(worst, api.LoadCase{}) {
		t.Error(rule, index, worst, e)
	}
	if rule, index, worst, e := load.Sure(p, api.LoadPoint{Landing: true, Tank: span(-3, 50)}); e != api.OK || rule != api.LoadShort || index != 0 || !sameCase(worst, api.LoadCase{Tank: -3}) {
		t.Error(rule, index, worst, e)
	}
}
