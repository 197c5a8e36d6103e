package load_test

import (
	"math"
	"math/rand/v2"
	"reflect"
	"testing"

	"windsock/api"
	"windsock/load"
)

// betterTrips returns trips of which more is known: each has one span that is less wide.
func betterTrips(r *rand.Rand, legs []api.LoadLeg) [][]api.LoadLeg {
	var trips [][]api.LoadLeg
	add := func(choose func([]api.LoadLeg) *api.Span) {
		c := copyOfLegs(legs)
		s := choose(c)
		*s = part(r, *s, s.High-s.Low)
		trips = append(trips, c)
	}
	for i := range legs {
		add(func(legs []api.LoadLeg) *api.Span { return &legs[i].Burn })
		add(func(legs []api.LoadLeg) *api.Span { return &legs[i].Leak })
		for k := range legs[i].Items {
			add(func(legs []api.LoadLeg) *api.Span { return &legs[i].Items[k].Weight })
		}
	}
	return trips
}

// TestSureStaysSure checks P2.7: what is known better, and limits that are wider.
func TestSureStaysSure(t *testing.T) {
	r := newRandom()
	sure := 0
	for i := range 6000 {
		p := smallPlane(r)
		fuel, legs := part(r, span(2, 8), 2), smallLegs(r, p)
		if at, _, _, _ := load.Trip(p, fuel, legs); at >= 0 {
			continue
		}
		sure++
		stays := func(p api.Plane, fuel api.Span, legs []api.LoadLeg) {
			t.Helper()
			if at, rule, _, e := load.Trip(p, fuel, legs); e != api.OK || at >= 0 {
				t.Fatal(i, p, fuel, legs, at, rule, e)
			}
		}
		stays(p, part(r, fuel, 2), legs)
		for _, better := range betterTrips(r, legs) {
			stays(p, fuel, better)
		}
		for _, change := range []func(*api.Plane){
			func(p *api.Plane) { p.Takeoff += 1 + r.IntN(9) },
			func(p *api.Plane) { p.Landing += 1 + r.IntN(9) },
			func(p *api.Plane) { p.Reserve = max(0, p.Reserve-1) },
		} {
			q := p
			change(&q)
			stays(q, fuel, legs)
		}
	}
	if sure < 200 {
		t.Error(sure)
	}
}

// TestArgumentsAreKept checks the rule R4: no argument is changed.
func TestArgumentsAreKept(t *testing.T) {
	p, x, legs, people := examplePlane(), examplePoint(), exampleLegs(), examplePeople()
	// room behind the items, into which people could be written
	legs[0].Items = append(make([]api.LoadItem, 0, api.LoadItems), legs[0].Items...)
	weights, water := []api.Span{exactly(150), exactly(200)}, dry()
	load.Check(p)
	load.Inside(p, 1500, 150000)
	load.Bounds(p, x)
	load.Sure(p, x)
	load.Points(p, span(150, 160), legs)
	load.Trip(p, span(150, 160), legs)
	load.Fuel(p, legs)
	load.Seat(p, weights, exactly(100), water, true)
	load.Take(p, exactly(100), legs, people)
	load.Print(span(150, 160), legs)
	if !reflect.DeepEqual(p, examplePlane()) || !reflect.DeepEqual(x, examplePoint()) || !reflect.DeepEqual(legs, exampleLegs()) || !reflect.DeepEqual(people, examplePeople()) {
		t.Error("changed")
	}
	if behind := legs[0].Items[:api.LoadItems]; behind[2] != (api.LoadItem{}) {
		t.Error(behind)
	}
	if weights[0] != exactly(150) || weights[1] != exactly(200) || water[0] != exactly(0) || water[1] != exactly(0) {
		t.Error(weights, water)
	}
}

// TestResultsAreApart checks the rule R4: results share no memory.
func TestResultsAreApart(t *testing.T) {
	legs := exampleLegs()
	points, _ := load.Points(examplePlane(), span(150, 160), legs)
	want, _ := load.Points(examplePlane(), span(150, 160), exampleLegs())
	for i := range points {
		points[i].Items[0].Station = 9
		points[i].Items = append(points[i].Items, api.LoadItem{})
		points[i].Water[0], points[i].Water[1] = exactly(9), exactly(9)
		for k := i + 1; k < len(points); k++ {
			if !reflect.DeepEqual(points[k], want[k]) {
				t.Error(i, k, points[k])
			}
		}
	}
	if !reflect.DeepEqual(legs, exampleLegs()) {
		t.Error(legs)
	}
}

// TestAnyValues checks P0.1 and the rule R5: each function ends, whatever its arguments are.
func TestAnyValues(t *testing.T) {
	values := []int{math.MinInt, math.MinInt + 1, -1, 0, 1, 5, api.LoadKilos, math.MaxInt - 1, math.MaxInt}
	r := newRandom()
	any := func() int { return values[r.IntN(len(values))] }
	spans := func() api.Span { return span(any(), any()) }
	stations := func() []api.LoadStation {
		var l []api.LoadStation
		for range r.IntN(4) {
			l = append(l, api.LoadStation{Arm: any(), Most: any()})
		}
		return l
	}
	for range 5000 {
		p := api.Plane{Empty: any(), Moment: any(), Takeoff: any(), Landing: any(), Reserve: any(), Stations: stations(), Floats: stations(), Tank: api.LoadStation{Arm: any(), Most: any()}}
		for range r.IntN(6) {
			p.Corners = append(p.Corners, api.LoadCorner{Weight: any(), Moment: any()})
		}
		if r.IntN(2) == 0 {
			p = examplePlane()
		}
		items := []api.LoadItem{{Station: any(), Weight: spans()}}
		legs := []api.LoadLeg{{Items: items, Fuel: any(), Burn: spans(), Leak: spans()}}
		people := []api.LoadPerson{{Weight: spans(), Station: any(), Legs: spans(), Worth: any()}}
		load.Check(p)
		load.Inside(p, any(), any())
		load.Bounds(p, api.LoadPoint{Items: items, Tank: spans(), Water: []api.Span{spans(), spans()}})
		load.Sure(p, api.LoadPoint{Items: items, Tank: spans(), Water: []api.Span{spans(), spans()}})
		load.Points(p, spans(), legs)
		load.Trip(p, spans(), legs)
		load.Fuel(p, legs)
		load.Seat(p, []api.Span{spans()}, spans(), []api.Span{spans(), spans()}, true)
		load.Take(p, spans(), legs, people)
		load.Take(p, spans(), []api.LoadLeg{{}}, people)
		load.Print(spans(), legs)
	}
}
