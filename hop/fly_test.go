package hop_test

import (
	"slices"
	"testing"

	"windsock/api"
	"windsock/hop"
)

// changedDays returns the day with two planes after some changes.
func changedDays(changes ...func(*api.HopDay)) []api.HopDay {
	var days []api.HopDay
	for _, change := range changes {
		d := twoPlanes()
		change(&d)
		days = append(days, d)
	}
	return days
}

// badDays returns days that are not as defined.
func badDays() []api.HopDay {
	days := changedDays(
		func(d *api.HopDay) { *d = api.HopDay{} },
		func(d *api.HopDay) { d.Places = nil },
		func(d *api.HopDay) { d.Places = append(d.Places, slices.Repeat(d.Places[1:2], 3)...) },
		func(d *api.HopDay) { d.Places = d.Places[:2] },
		func(d *api.HopDay) { d.Places[2].Berths = -1 },
		func(d *api.HopDay) { d.Places[2].Berths = api.HopPlanes + 1 },
		func(d *api.HopDay) { d.Links = append(d.Links, api.HopLink{One: 0, Other: 1}) },
		func(d *api.HopDay) { d.Links = append(d.Links, api.HopLink{One: 1, Other: 0}) },
		func(d *api.HopDay) { d.Links = append(d.Links, api.HopLink{One: 2, Other: 2}) },
		func(d *api.HopDay) { d.Links = append(d.Links, api.HopLink{One: 2, Other: 3}) },
		func(d *api.HopDay) { d.Links = append(d.Links, api.HopLink{One: -1, Other: 2}) },
		func(d *api.HopDay) { d.Planes = append(d.Planes, api.HopPlane{At: 1, Home: 1}) },
		func(d *api.HopDay) { d.People = slices.Repeat(d.People, api.HopPeople+1) },
		// too many planes at the beginning
		func(d *api.HopDay) { d.Places[0].Berths = 1 },
		func(d *api.HopDay) { d.Places[0].Berths = 0 },
		func(d *api.HopDay) { d.Planes[0].At, d.Planes[1].At = 2, 2 },
		func(d *api.HopDay) { d.Planes[0].At, d.Places[2].Berths = 2, 0 },
		func(d *api.HopDay) { d.Weathers = nil },
		func(d *api.HopDay) { d.Weathers = slices.Repeat(d.Weathers, 4) },
		func(d *api.HopDay) { d.Weathers = [][]int{nil} },
		func(d *api.HopDay) { d.Weathers = [][]int{nil, {7}} },
		func(d *api.HopDay) { d.Weathers[1] = d.Weathers[1][:2] },
		func(d *api.HopDay) { d.Weathers[0] = d.Weathers[0][:2] },
		func(d *api.HopDay) { d.Weathers = [][]int{make([]int, api.HopSlots+1)} },
		func(d *api.HopDay) { d.Weathers[0][0] = 8 },
		func(d *api.HopDay) { d.Weathers[1][2] = -1 },
	)
	for _, place := range []int{-1, 3} {
		days = append(days, changedDays(
			func(d *api.HopDay) { d.Planes[1].At = place },
			func(d *api.HopDay) { d.Planes[1].Home = place },
			func(d *api.HopDay) { d.People[0].At = place },
			func(d *api.HopDay) { d.People[0].To = place },
		)...)
	}
	for _, seats := range []int{-1, api.HopSeats + 1} {
		days = append(days, changedDays(
			func(d *api.HopDay) { d.Planes[0].Seats = seats },
			func(d *api.HopDay) { d.Planes[0].Duty = seats },
			func(d *api.HopDay) { d.People[0].Seats = max(0, seats) },
		)...)
	}
	for _, weight := range []int{-1, api.HopWeight + 1} {
		days = append(days, changedDays(
			func(d *api.HopDay) { d.Planes[0].Away = weight },
			func(d *api.HopDay) { d.People[0].Strand = weight },
			func(d *api.HopDay) { d.People[0].Lodged = weight },
		)...)
	}
	return days
}

// TestCheck checks P4.2 (Check).
func TestCheck(t *testing.T) {
	for i, bad := range badDays() {
		if e := hop.Check(bad); e != api.ErrArg {
			t.Error(i, e)
		}
	}
	for i, d := range append(changedDays(
		func(*api.HopDay) {},
		func(d *api.HopDay) { *d = exampleDay() },
		func(d *api.HopDay) { *d = exampleShortDay() },
		func(d *api.HopDay) { d.Links, d.People = nil, nil },
		func(d *api.HopDay) { d.Planes, d.People = nil, nil },
		func(d *api.HopDay) { d.Links = append(d.Links, api.HopLink{One: 2, Other: 1}) },
		func(d *api.HopDay) { d.Places[1].Berths, d.Places[2].Berths = 0, 0 },
		func(d *api.HopDay) { d.Planes[0].At, d.Places[0].Berths = 1, 1 },
		func(d *api.HopDay) { d.Planes[0].Seats, d.Planes[0].Duty = api.HopSeats, api.HopSeats },
		func(d *api.HopDay) { d.Planes[0].Away = api.HopWeight },
		func(d *api.HopDay) { d.People[0].Seats = api.HopSeats },
		func(d *api.HopDay) { d.People[0].Strand, d.People[0].Lodged = api.HopWeight, api.HopWeight },
		func(d *api.HopDay) { d.People[0].To = 1 },
		func(d *api.HopDay) { d.Weathers = [][]int{{0}} },
		func(d *api.HopDay) { d.Weathers = slices.Repeat([][]int{{7, 0, 7, 7, 7}}, api.HopWeathers) },
	), api.HopDay{Places: []api.HopPlace{{}}, Weathers: [][]int{{1}}}) {
		if e := hop.Check(d); e != api.OK {
			t.Error(i, e)
		}
	}
}

// stateWith returns a state of the day with two planes and a person.
func stateWith(first, second, firstLegs, secondLegs, person int) api.HopState {
	return api.HopState{Planes: []int{first, second}, Legs: []int{firstLegs, secondLegs}, People: []int{person}}
}

// TestFly checks P4.2 (Fly), rule by rule.
func TestFly(t *testing.T) {
	unit := func(flights ...api.HopFlight) []api.HopFlight { return flights }
	for i, one := range []struct {
		before api.HopState
		open   int
		unit   []api.HopFlight
		behind api.HopState
		rule   api.HopRule
		plane  int
	}{
		{stateWith(0, 0, 0, 0, 1), 7, unit(stay(), stay()), stateWith(0, 0, 0, 0, 1), api.HopFine, -1},
		{stateWith(0, 0, 0, 0, 1), 7, unit(to(1), stay()), stateWith(1, 0, 1, 0, 1), api.HopFine, -1},
		{stateWith(0, 0, 0, 0, 1), 7, unit(to(1), to(2)), stateWith(1, 2, 1, 1, 1), api.HopFine, -1},
		{stateWith(1, 0, 1, 0, 1), 7, unit(to(0, 0), stay()), stateWith(0, 0, 2, 0, 0), api.HopFine, -1},
		{stateWith(1, 0, 1, 0, 1), 3, unit(to(0, 0), stay()), stateWith(0, 0, 2, 0, 0), api.HopFine, -1},
		// no link: neither between 1 and 2, nor from a place to itself
		{stateWith(1, 0, 1, 0, 1), 7, unit(to(2), stay()), stateWith(1, 0, 1, 0, 1), api.HopLinked, 0},
		{stateWith(0, 0, 0, 0, 1), 7, unit(to(0), stay()), stateWith(0, 0, 0, 0, 1), api.HopLinked, 0},
		{stateWith(1, 0, 3, 0, 1), 0, unit(to(2), to(0)), stateWith(1, 0, 3, 0, 1), api.HopLinked, 0},
		{stateWith(1, 0, 3, 0, 1), 0, unit(stay(), to(0)), stateWith(1, 0, 3, 0, 1), api.HopLinked, 1},
		// not open: where it is, or where it flies to; nothing is open, and all stay
		{stateWith(0, 0, 0, 0, 1), 5, unit(to(1), stay()), stateWith(0, 0, 0, 0, 1), api.HopShut, 0},
		{stateWith(0, 0, 0, 0, 1), 6, unit(to(1), stay()), stateWith(0, 0, 0, 0, 1), api.HopShut, 0},
		{stateWith(0, 0, 3, 1, 1), 5, unit(to(1, 0), to(1)), stateWith(0, 0, 3, 1, 1), api.HopShut, 0},
		{stateWith(0, 1, 3, 1, 1), 0, unit(stay(), stay()), stateWith(0, 1, 3, 1, 1), api.HopFine, -1},
		// as many legs as its duty, or more
		{stateWith(0, 0, 2, 0, 1), 7, unit(to(1), stay()), stateWith(1, 0, 3, 0, 1), api.HopFine, -1},
		{stateWith(0, 0, 3, 0, 1), 7, unit(to(1, 0), stay()), stateWith(0, 0, 3, 0, 1), api.HopTired, 0},
		{stateWith(0, 0, 5, 0, 1), 7, unit(to(1), stay()), stateWith(0, 0, 5, 0, 1), api.HopTired, 0},
		{stateWith(0, 0, 0, 1, 1), 7, unit(to(1), to(2)), stateWith(0, 0, 0, 1, 1), api.HopTired, 1},
		// somebody who is elsewhere, or who flies already
		{stateWith(0, 0, 0, 0, 1), 7, unit(to(1, 0), stay()), stateWith(0, 0, 0, 0, 1), api.HopHere, 0},
		{stateWith(0, 0, 0, 0, 0), 7, unit(to(1, 0), to(2, 0)), stateWith(0, 0, 0, 0, 0), api.HopHere, 1},
		{stateWith(0, 1, 0, 0, 0), 7, unit(to(1, 0), to(0, 0)), stateWith(0, 1, 0, 0, 0), api.HopHere, 1},
		// too few seats
		{stateWith(0, 0, 0, 0, 0), 7, unit(stay(), to(2, 0)), stateWith(0, 0, 0, 0, 0), api.HopSeated, 1},
		{stateWith(0, 0, 0, 0, 0), 7, unit(to(1), to(1, 0)), stateWith(0, 0, 0, 0, 0), api.HopSeated, 1},
		// too few berths behind the unit; a berth that is left by one is free for the other one
		{stateWith(0, 0, 0, 0, 1), 7, unit(to(1), to(1)), stateWith(0, 0, 0, 0, 1), api.HopBerth, -1},
		{stateWith(1, 0, 0, 0, 1), 7, unit(stay(), to(1)), stateWith(1, 0, 0, 0, 1), api.HopBerth, -1},
		{stateWith(1, 1, 0, 0, 1), 7, unit(stay(), stay()), stateWith(1, 1, 0, 0, 1), api.HopBerth, -1},
		{stateWith(1, 1, 0, 0, 1), 7, unit(stay(), to(0)), stateWith(1, 0, 0, 1, 1), api.HopFine, -1},
		{stateWith(0, 2, 0, 0, 1), 7, unit(to(2), to(0)), stateWith(2, 0, 1, 1, 1), api.HopFine, -1},
		// the first plane comes first, whatever the second one does
		{stateWith(0, 0, 0, 1, 0), 7, unit(to(1), to(0)), stateWith(0, 0, 0, 1, 0), api.HopLinked, 1},
		{stateWith(0, 1, 3, 1, 1), 7, unit(to(1), to(2)), stateWith(0, 1, 3, 1, 1), api.HopTired, 0},
	} {
		s, rule, plane, e := hop.Fly(twoPlanes(), one.before, one.open, one.unit)
		if e != api.OK || !sameStates(s, one.behind) || rule != one.rule || plane != one.plane {
			t.Error(i, s, rule, plane, e)
		}
	}
	// one leg more than a state has otherwise
	d := twoPlanes()
	d.Planes[0].Duty = api.HopSeats
	s, rule, plane, e := hop.Fly(d, stateWith(0, 0, api.HopSlots, 0, 1), 7, unit(to(1), stay()))
	if e != api.OK || rule != api.HopFine || plane != -1 || !sameStates(s, stateWith(1, 0, api.HopSlots+1, 0, 1)) {
		t.Error(s, rule, plane, e)
	}
}

// TestFlySeats checks P4.2 (Fly): seats are what people need together.
func TestFlySeats(t *testing.T) {
	d := exampleDay()
	d.People = []api.HopPerson{{Seats: 1}, {Seats: 2}, {Seats: 1}}
	s := startOf(d)
	for i, one := range []struct {
		people []int
		rule   api.HopRule
		behind []int
	}{
		{nil, api.HopFine, []int{0, 0, 0}},
		{[]int{0, 2}, api.HopFine, []int{1, 0, 1}},
		{[]int{1}, api.HopFine, []int{0, 1, 0}},
		{[]int{0, 1}, api.HopSeated, []int{0, 0, 0}},
		{[]int{1, 2}, api.HopSeated, []int{0, 0, 0}},
		{[]int{0, 1, 2}, api.HopSeated, []int{0, 0, 0}},
	} {
		behind, rule, _, e := hop.Fly(d, s, 7, []api.HopFlight{to(1, one.people...)})
		if e != api.OK || rule != one.rule || !slices.Equal(behind.People, one.behind) {
			t.Error(i, behind, rule, e)
		}
	}
}

// TestFlyAll checks P4.2 (Fly) for all units of small days, and Cost behind them.
func TestFlyAll(t *testing.T) {
	r := newRandom()
	found := map[api.HopRule]int{}
	for i := range 1000 {
		d := randomDay(r, sizes{4, 2, 2, 3, 2})
		s, open := randomState(r, d), r.IntN(1<<len(d.Places))
		for _, unit := range allUnits(d) {
			behind, rule, plane, e := hop.Fly(d, s, open, unit)
			want, wantRule, wantPlane := flown(d, s, open, unit)
			if e != api.OK || rule != wantRule || plane != wantPlane || !sameStates(behind, want) {
				t.Fatal(i, d, s, open, unit, behind, rule, plane, e)
			}
			found[rule]++
		}
	}
	for rule := api.HopFine; rule <= api.HopBerth; rule++ {
		if found[rule] < 50 {
			t.Error(rule, found[rule])
		}
	}
}

// TestCost checks P4.2 (Cost).
func TestCost(t *testing.T) {
	for i, one := range []struct {
		state api.HopState
		want  int
	}{
		{stateWith(0, 0, 0, 0, 0), 0},
		{stateWith(1, 1, 0, 0, 0), 3},
		{stateWith(0, 0, 5, 5, 1), 10},
		{stateWith(2, 0, 0, 0, 2), 7},
		{stateWith(1, 2, 0, 0, 1), 13},
	} {
		if n, e := hop.Cost(twoPlanes(), one.state); e != api.OK || n != one.want {
			t.Error(i, n, e)
		}
	}
	d := twoPlanes()
	d.People[0].To = 2
	d.Planes[1].Home, d.Planes[1].Away = 1, 100
	// at a place that lodges people, and is not the one to which they want
	if n, e := hop.Cost(d, stateWith(0, 0, 0, 0, 0)); e != api.OK || n != 104 {
		t.Error(n, e)
	}
	d.Planes, d.People = nil, nil
	if n, e := hop.Cost(d, api.HopState{}); e != api.OK || n != 0 {
		t.Error(n, e)
	}
	r := newRandom()
	for i := range 2000 {
		d := randomDay(r, sizes{5, 2, 4, 5, 6})
		s := randomState(r, d)
		if n, e := hop.Cost(d, s); e != api.OK || n != costOf(d, s) {
			t.Fatal(i, d, s, n, e)
		}
	}
	d = exampleDay()
	d.Planes = []api.HopPlane{{Home: 1, Away: api.HopWeight}, {Home: 2, Away: api.HopWeight}}
	d.People = slices.Repeat([]api.HopPerson{{At: 1, To: 2, Seats: 1, Strand: api.HopWeight}}, api.HopPeople)
	if n, e := hop.Cost(d, startOf(d)); e != api.OK || n != 6*api.HopWeight {
		t.Error(n, e)
	}
}

// badStates returns states that are not as defined for the day with two planes.
func badStates() []api.HopState {
	s := []api.HopState{
		{},
		{Planes: []int{0, 0}, Legs: []int{0, 0}},
		{Planes: []int{0, 0}, Legs: []int{0, 0}, People: []int{1, 1}},
		{Planes: []int{0}, Legs: []int{0}, People: []int{1}},
		{Planes: []int{0}, Legs: []int{0, 0}, People: []int{1}},
		{Planes: []int{0, 0}, Legs: []int{0}, People: []int{1}},
		{Planes: []int{0, 0, 0}, Legs: []int{0, 0, 0}, People: []int{1}},
	}
	for _, place := range []int{-1, 3, 256, 1 << 40} {
		s = append(s, stateWith(place, 0, 0, 0, 1), stateWith(0, place, 0, 0, 1), stateWith(0, 0, 0, 0, place))
	}
	for _, legs := range []int{-1, api.HopSlots + 1, 256} {
		s = append(s, stateWith(0, 0, legs, 0, 1), stateWith(0, 0, 0, legs, 1))
	}
	return s
}

// badUnits returns units that are not as defined for the day with two planes.
func badUnits() [][]api.HopFlight {
	return [][]api.HopFlight{
		nil, {stay()}, {stay(), stay(), stay()},
		{to(-1, 0), stay()}, {stay(), to(-1, 0)}, {to(-2), stay()}, {to(3), stay()}, {stay(), to(3)}, {to(255), stay()}, {to(256), stay()},
		{to(1, 0, 0), stay()}, {to(1, 1), stay()}, {to(1, -1), stay()}, {stay(), to(1, -1, 0)}, {stay(), to(1, 0, 1)}, {stay(), to(1, 64)},
	}
}

// TestFlyErrors checks the errors of P4.2.
func TestFlyErrors(t *testing.T) {
	try := func(i int, d api.HopDay, s api.HopState, open int, unit []api.HopFlight) {
		t.Helper()
		behind, rule, plane, e := hop.Fly(d, s, open, unit)
		if e != api.ErrArg || rule != 0 || plane != 0 || !sameStates(behind, api.HopState{}) {
			t.Error(i, behind, rule, plane, e)
		}
	}
	fine, all := []api.HopFlight{stay(), stay()}, stateWith(0, 0, 0, 0, 1)
	for i, bad := range badDays() {
		try(i, bad, all, 0, fine)
		if n, e := hop.Cost(bad, all); e != api.ErrArg || n != 0 {
			t.Error(i, n, e)
		}
	}
	for i, bad := range badStates() {
		try(i, twoPlanes(), bad, 7, fine)
		if n, e := hop.Cost(twoPlanes(), bad); e != api.ErrArg || n != 0 {
			t.Error(i, n, e)
		}
	}
	for i, open := range []int{-1, 8} {
		try(i, twoPlanes(), all, open, fine)
	}
	for i, bad := range badUnits() {
		try(i, twoPlanes(), all, 7, bad)
	}
	d := twoPlanes()
	d.People = append(d.People, d.People[0])
	s := startOf(d)
	try(0, d, s, 7, []api.HopFlight{to(1, 1, 0), stay()})
}
