package load_test

import (
	"math/rand/v2"
	"reflect"
	"slices"
	"testing"

	"windsock/api"
	"windsock/load"
)

// badTrips returns trips that are not as defined for the chapter's plane.
func badTrips() ([]api.Span, [][]api.LoadLeg) {
	changes := []func(*api.Span, *[]api.LoadLeg){
		func(fuel *api.Span, _ *[]api.LoadLeg) { *fuel = span(-1, 0) },
		func(fuel *api.Span, _ *[]api.LoadLeg) { *fuel = span(1, 0) },
		func(fuel *api.Span, _ *[]api.LoadLeg) { *fuel = span(0, api.LoadKilos+1) },
	}
	for _, change := range badLegChanges() {
		changes = append(changes, func(_ *api.Span, legs *[]api.LoadLeg) { change(legs) })
	}
	var fuels []api.Span
	var trips [][]api.LoadLeg
	for _, change := range changes {
		fuel, legs := span(150, 160), exampleLegs()
		change(&fuel, &legs)
		fuels, trips = append(fuels, fuel), append(trips, legs)
	}
	return fuels, trips
}

func badLegChanges() []func(*[]api.LoadLeg) {
	return []func(*[]api.LoadLeg){
		func(legs *[]api.LoadLeg) { *legs = nil },
		func(legs *[]api.LoadLeg) { *legs = []api.LoadLeg{} },
		func(legs *[]api.LoadLeg) { (*legs)[0].Fuel = -1 },
		func(legs *[]api.LoadLeg) { (*legs)[1].Fuel = api.LoadKilos + 1 },
		func(legs *[]api.LoadLeg) { (*legs)[0].Burn = span(-1, 3) },
		func(legs *[]api.LoadLeg) { (*legs)[1].Burn = span(4, 3) },
		func(legs *[]api.LoadLeg) { (*legs)[1].Burn = span(4, api.LoadKilos+1) },
		func(legs *[]api.LoadLeg) { (*legs)[1].Leak = span(-1, 3) },
		func(legs *[]api.LoadLeg) { (*legs)[0].Leak = span(4, 3) },
		func(legs *[]api.LoadLeg) { (*legs)[0].Leak = span(4, api.LoadKilos+1) },
		func(legs *[]api.LoadLeg) { (*legs)[1].Items[0].Weight = span(-1, 3) },
		func(legs *[]api.LoadLeg) { (*legs)[1].Items[0].Weight = span(4, 3) },
		func(legs *[]api.LoadLeg) { (*legs)[0].Items[1].Weight = span(4, api.LoadKilos+1) },
		func(legs *[]api.LoadLeg) { (*legs)[0].Items[1].Station = -1 },
		func(legs *[]api.LoadLeg) { (*legs)[0].Items[0].Station = api.LoadStations },
		func(legs *[]api.LoadLeg) { (*legs)[1].Items = make([]api.LoadItem, api.LoadItems+1) },
	}
}

// TestTripsNotDefined checks the errors of P2.3 and P2.4.
func TestTripsNotDefined(t *testing.T) {
	try := func(i int, p api.Plane, fuel api.Span, legs []api.LoadLeg, want api.Errno) {
		if l, e := load.Points(p, fuel, legs); e != want || l != nil {
			t.Error(i, l, e)
		}
		if at, rule, index, e := load.Trip(p, fuel, legs); e != want || at != 0 || rule != 0 || index != 0 {
			t.Error(i, at, rule, index, e)
		}
		if fuel != span(150, 160) {
			return
		}
		if n, e := load.Fuel(p, legs); e != want || n != 0 {
			t.Error(i, n, e)
		}
	}
	fuels, trips := badTrips()
	for i, fuel := range fuels {
		try(i, examplePlane(), fuel, trips[i], api.ErrArg)
	}
	// a station that other planes have
	legs := exampleLegs()
	legs[1].Items[0].Station = 2
	try(0, examplePlane(), span(150, 160), legs, api.ErrArg)
	for i, p := range badPlanes() {
		try(i, p, span(150, 160), []api.LoadLeg{{}}, api.ErrArg)
	}
	for i, p := range []api.Plane{examplePlane(), {}} {
		try(i, p, span(150, 160), make([]api.LoadLeg, api.LoadLegs+1), api.ErrLong)
		try(i, p, span(1, 0), make([]api.LoadLeg, api.LoadLegs+1), api.ErrLong)
	}
}

// TestPoints checks P2.3 (Points).
func TestPoints(t *testing.T) {
	legs := exampleLegs()
	points, e := load.Points(examplePlane(), span(150, 160), legs)
	both := func(s api.Span) []api.Span { return []api.Span{s, s} }
	want := []api.LoadPoint{
		{Items: legs[0].Items, Tank: span(150, 160), Water: both(span(0, 0))},
		{Items: legs[0].Items, Tank: span(110, 130), Water: both(span(0, 5)), Landing: true},
		{Items: legs[1].Items, Tank: span(110, 130), Water: both(span(0, 5))},
		{Items: legs[1].Items, Tank: span(30, 70), Water: both(span(0, 10)), Landing: true},
	}
	if e != api.OK || !reflect.DeepEqual(points, want) {
		t.Error(points, e)
	}
	// fuel and a pump at the second leg, and leaks that are there surely
	legs[0].Leak, legs[1].Leak = span(2, 5), span(1, 4)
	legs[1].Fuel, legs[1].Pump = 20, true
	want[1].Water, want[2].Water, want[3].Water = both(span(2, 5)), both(span(0, 0)), both(span(1, 4))
	want[2].Tank, want[3].Tank = span(130, 150), span(50, 90)
	if points, e := load.Points(examplePlane(), span(150, 160), legs); e != api.OK || !reflect.DeepEqual(points, want) {
		t.Error(points, e)
	}
	// fuel ahead of the first leg, a tank that would be empty earlier, and no floats
	p := examplePlane()
	p.Floats = nil
	points, e = load.Points(p, span(1, 2), []api.LoadLeg{{Fuel: 3, Burn: span(4, 9), Leak: span(5, 5)}})
	if e != api.OK || len(points) != 2 || points[0].Tank != span(4, 5) || points[1].Tank != span(-5, 1) || len(points[0].Water)+len(points[1].Water) != 0 {
		t.Error(points, e)
	}
}

// TestPointsOfWidestTrip checks P2.3: the points of each trip are points.
func TestPointsOfWidestTrip(t *testing.T) {
	for i, leg := range []api.LoadLeg{
		{Fuel: api.LoadKilos, Leak: exactly(api.LoadKilos)},
		{Burn: exactly(api.LoadKilos), Leak: exactly(api.LoadKilos)},
	} {
		legs := slices.Repeat([]api.LoadLeg{leg}, api.LoadLegs)
		fuel := exactly(api.LoadKilos)
		if i == 1 {
			fuel = exactly(0)
		}
		points, e := load.Points(examplePlane(), fuel, legs)
		if e != api.OK || len(points) != 2*api.LoadLegs {
			t.Fatal(points, e)
		}
		last := points[len(points)-1]
		if last.Water[1] != exactly(tripKilos) || last.Tank != exactly([]int{7 * api.LoadKilos, -tripKilos}[i]) {
			t.Error(last)
		}
		if _, _, _, e := load.Sure(examplePlane(), last); e != api.OK {
			t.Error(e)
		}
	}
}

// TestTrip checks P2.3 (Trip).
func TestTrip(t *testing.T) {
	p := examplePlane()
	if at, rule, index, e := load.Trip(p, span(150, 160), exampleLegs()); e != api.OK || at != 3 || rule != api.LoadShort || index != 0 {
		t.Error(at, rule, index, e)
	}
	if at, rule, index, e := load.Trip(p, span(160, 200), exampleLegs()); e != api.OK || at != -1 || rule != api.LoadFine || index != 0 {
		t.Error(at, rule, index, e)
	}
	if at, rule, index, e := load.Trip(p, span(160, 201), exampleLegs()); e != api.OK || at != 0 || rule != api.LoadFull || index != 0 {
		t.Error(at, rule, index, e)
	}
	// water that gathers leg by leg
	legs := exampleLegs()
	legs[1].Leak.High = 46
	if at, rule, index, e := load.Trip(p, exactly(160), legs); e != api.OK || at != 3 || rule != api.LoadWet || index != 0 {
		t.Error(at, rule, index, e)
	}
	legs[1].Pump = true
	if at, rule, index, e := load.Trip(p, exactly(160), legs); e != api.OK || at != -1 || rule != api.LoadFine || index != 0 {
		t.Error(at, rule, index, e)
	}
	legs = exampleLegs()
	legs[1].Items[0] = api.LoadItem{Station: 1, Weight: exactly(301)}
	if at, rule, index, e := load.Trip(p, exactly(160), legs); e != api.OK || at != 2 || rule != api.LoadOver || index != 1 {
		t.Error(at, rule, index, e)
	}
	r := newRandom()
	for i := range 2000 {
		p := smallPlane(r)
		fuel, legs := part(r, span(2, 8), 2), smallLegs(r, p)
		points, _ := load.Points(p, fuel, legs)
		want, first := -1, breach{api.LoadFine, 0}
		for k, x := range points {
			if b := firstBreach(p, x); b.rule != api.LoadFine {
				want, first = k, b
				break
			}
		}
		if at, rule, index, e := load.Trip(p, fuel, legs); e != api.OK || at != want || (breach{rule, index}) != first {
			t.Fatal(i, p, fuel, legs, at, rule, index, e)
		}
	}
}

// fly flies a trip in a truth of it, and reports whether all is within the limits at each quarter
// of each leg. Numbers are four times what they are in truth.
func fly(r *rand.Rand, p api.Plane, fuel api.Span, legs []api.LoadLeg) bool {
	fine := true
	tank, water := 4*within(r, fuel), make([]int, len(p.Floats))
	for _, leg := range legs {
		weight, moment := 4*p.Empty, 4*p.Moment
		for _, item := range leg.Items {
			w := within(r, item.Weight)
			weight, moment = weight+4*w, moment+4*w*p.Stations[item.Station].Arm
		}
		if leg.Pump {
			clear(water)
		}
		tank += 4 * leg.Fuel
		burn, leaks := within(r, leg.Burn), make([]int, len(p.Floats))
		for i := range leaks {
			leaks[i] = within(r, leg.Leak)
		}
		fine = fine && tank <= 4*p.Tank.Most
		for quarter := range 5 {
			w, m := weight+tank, moment+tank*p.Tank.Arm
			for i, x := range water {
				w, m = w+x, m+x*p.Floats[i].Arm
				fine = fine && x <= 4*p.Floats[i].Most
			}
			fine = fine && insideQuarters(p, w, m) && (quarter > 0 || w <= 4*p.Takeoff) && (quarter < 4 || w <= 4*p.Landing)
			if quarter < 4 {
				tank -= burn
				for i := range water {
					water[i] += leaks[i]
				}
			}
		}
		fine = fine && tank >= 4*p.Reserve
	}
	return fine
}

func insideQuarters(p api.Plane, weight, moment int) bool {
	for i, from := range p.Corners {
		to := p.Corners[(i+1)%len(p.Corners)]
		if (to.Weight-from.Weight)*(moment-4*from.Moment)-(to.Moment-from.Moment)*(weight-4*from.Weight) < 0 {
			return false
		}
	}
	return true
}

// TestSureTripsAreFlown checks P2.3 and P0.2: in a trip that is sure, nothing is ever beyond its limits.
func TestSureTripsAreFlown(t *testing.T) {
	r := newRandom()
	sure, broken := 0, 0
	for i := range 4000 {
		p := smallPlane(r)
		fuel, legs := part(r, span(2, 8), 2), smallLegs(r, p)
		at, _, _, _ := load.Trip(p, fuel, legs)
		for range 20 {
			fine := fly(r, p, fuel, legs)
			if at < 0 && !fine {
				t.Fatal(i, p, fuel, legs)
			}
			if !fine {
				broken++
			}
		}
		if at < 0 {
			sure++
		}
	}
	if sure < 200 || broken < 200 {
		t.Error(sure, broken)
	}
}

// TestFuel checks P2.4, and of P2.7 that the amounts are a span.
func TestFuel(t *testing.T) {
	p := examplePlane()
	if n, e := load.Fuel(p, exampleLegs()); e != api.OK || n != 160 {
		t.Error(n, e)
	}
	legs := exampleLegs()
	legs[1].Fuel = 20
	if n, e := load.Fuel(p, legs); e != api.OK || n != 140 {
		t.Error(n, e)
	}
	if n, e := load.Fuel(p, []api.LoadLeg{{Burn: span(10, 160)}}); e != api.OK || n != 200 {
		t.Error(n, e)
	}
	if n, e := load.Fuel(p, []api.LoadLeg{{Burn: span(10, 161)}}); e != api.ErrNone || n != 0 {
		t.Error(n, e)
	}
	if n, e := load.Fuel(p, []api.LoadLeg{{Fuel: 200}}); e != api.OK || n != 0 {
		t.Error(n, e)
	}
	if n, e := load.Fuel(p, []api.LoadLeg{{Fuel: 201}}); e != api.ErrNone || n != 0 {
		t.Error(n, e)
	}
	// the greatest amount of all, and 1 more
	p = widePlane()
	p.Empty, p.Moment, p.Takeoff, p.Landing, p.Tank = 1, 0, api.LoadKilos, api.LoadKilos, api.LoadStation{Most: api.LoadKilos}
	p.Reserve = api.LoadKilos - 1
	if n, e := load.Fuel(p, []api.LoadLeg{{}}); e != api.OK || n != api.LoadKilos-1 {
		t.Error(n, e)
	}
	p.Reserve = api.LoadKilos
	if n, e := load.Fuel(p, []api.LoadLeg{{}}); e != api.ErrNone || n != 0 {
		t.Error(n, e)
	}
	// items too heavy for their station, whatever the fuel is
	if n, e := load.Fuel(widePlane(), []api.LoadLeg{{Items: []api.LoadItem{{Station: 1, Weight: span(0, 301)}}}}); e != api.ErrNone || n != 0 {
		t.Error(n, e)
	}
}

// TestFuelForBalance checks P2.4: fuel can be needed, or be too much, for the balance alone.
func TestFuelForBalance(t *testing.T) {
	p := examplePlane()
	p.Reserve, p.Tank.Arm, p.Moment = 0, 145, 94000
	// at the edge 0 each kilogram brings 50: 20 of them are needed for 1000
	if n, e := load.Fuel(p, []api.LoadLeg{{}}); e != api.OK || n != 20 {
		t.Error(n, e)
	}
	p.Moment = 93999
	if n, e := load.Fuel(p, []api.LoadLeg{{}}); e != api.OK || n != 21 {
		t.Error(n, e)
	}
	p.Tank.Arm = 95
	if n, e := load.Fuel(p, []api.LoadLeg{{}}); e != api.ErrNone || n != 0 {
		t.Error(n, e)
	}
	p.Tank.Arm = 45
	if n, e := load.Fuel(p, []api.LoadLeg{{}}); e != api.ErrNone || n != 0 {
		t.Error(n, e)
	}
	p.Moment = 100000
	if n, e := load.Fuel(p, []api.LoadLeg{{Burn: span(50, 100)}}); e != api.OK || n != 100 {
		t.Error(n, e)
	}
	if n, e := load.Fuel(p, []api.LoadLeg{{Burn: span(50, 101)}}); e != api.ErrNone || n != 0 {
		t.Error(n, e)
	}
}

// TestFuelSmall checks P2.4 against each amount that the tank holds.
func TestFuelSmall(t *testing.T) {
	r := newRandom()
	found, balanced := 0, 0
	for i := range 6000 {
		p := smallPlane(r)
		legs := smallLegs(r, p)
		var sure []int
		for fuel := range p.Tank.Most + 3 {
			if at, _, _, _ := load.Trip(p, exactly(fuel), legs); at < 0 {
				sure = append(sure, fuel)
			}
		}
		n, e := load.Fuel(p, legs)
		if len(sure) == 0 {
			if e != api.ErrNone || n != 0 {
				t.Fatal(i, p, legs, n, e)
			}
			continue
		}
		found++
		if e != api.OK || n != sure[0] {
			t.Fatal(i, p, legs, n, e, sure)
		}
		if sure[len(sure)-1]-sure[0] != len(sure)-1 {
			t.Fatal(i, p, legs, sure)
		}
		if _, rule, _, _ := load.Trip(p, exactly(max(0, n-1)), legs); rule == api.LoadOut {
			balanced++
		}
	}
	if found < 300 || balanced < 20 {
		t.Error(found, balanced)
	}
}
