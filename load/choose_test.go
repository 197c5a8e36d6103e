package load_test

import (
	"slices"
	"testing"

	"windsock/api"
	"windsock/load"
)

func dry() []api.Span { return []api.Span{{}, {}} }

// TestSeat checks P2.5 (Seat).
func TestSeat(t *testing.T) {
	p := examplePlane()
	for i, one := range []struct {
		weights []api.Span
		tank    api.Span
		water   []api.Span
		landing bool
		want    []int
		e       api.Errno
	}{
		{weights: []api.Span{exactly(150), exactly(200)}, tank: exactly(100), want: []int{0, 1}},
		{weights: []api.Span{exactly(200), exactly(150)}, tank: exactly(100), want: []int{0, 1}},
		{weights: []api.Span{exactly(100), exactly(100)}, tank: exactly(100), want: []int{0, 0}},
		{weights: []api.Span{span(100, 101), exactly(100)}, tank: exactly(100), want: []int{0, 1}},
		{weights: []api.Span{exactly(200)}, tank: exactly(100), want: []int{0}},
		{weights: []api.Span{exactly(201)}, tank: exactly(100), e: api.ErrNone},
		{tank: exactly(100)},
		{weights: []api.Span{}, tank: exactly(201), e: api.ErrNone},
		{tank: exactly(200), water: []api.Span{exactly(50), exactly(50)}},
		{tank: exactly(200), water: []api.Span{exactly(50), span(0, 51)}, e: api.ErrNone},
		{tank: exactly(40), landing: true},
		{tank: exactly(39), landing: true, e: api.ErrNone},
		{tank: exactly(39)},
		{tank: exactly(39), weights: []api.Span{exactly(10)}, landing: true, e: api.ErrNone},
	} {
		water := one.water
		if water == nil {
			water = dry()
		}
		if l, e := load.Seat(p, one.weights, one.tank, water, one.landing); e != one.e || !slices.Equal(l, one.want) {
			t.Error(i, l, e)
		}
	}
}

// TestSeatErrors checks the errors of P2.5 (Seat).
func TestSeatErrors(t *testing.T) {
	tank := exactly(100)
	try := func(p api.Plane, weights []api.Span, tank api.Span, water []api.Span, want api.Errno) {
		t.Helper()
		if l, e := load.Seat(p, weights, tank, water, false); e != want || l != nil {
			t.Error(l, e)
		}
	}
	p := examplePlane()
	try(p, make([]api.Span, api.LoadSeats+1), tank, dry(), api.ErrLong)
	try(api.Plane{}, make([]api.Span, api.LoadSeats+1), span(1, 0), nil, api.ErrLong)
	for _, w := range []api.Span{span(-1, 0), span(1, 0), span(0, api.LoadKilos+1)} {
		try(p, []api.Span{{}, w}, tank, dry(), api.ErrArg)
	}
	for _, x := range badPoints() {
		if len(x.Items) == 2 && slices.Equal(x.Items, examplePoint().Items) {
			try(p, nil, x.Tank, x.Water, api.ErrArg)
		}
	}
	for _, bad := range badPlanes() {
		try(bad, nil, tank, make([]api.Span, len(bad.Floats)), api.ErrArg)
	}
	// without stations nothing can be seated, and nothing need be
	p.Stations = nil
	try(p, make([]api.Span, 1), tank, dry(), api.ErrNone)
	if l, e := load.Seat(p, nil, tank, dry(), false); e != api.OK || len(l) != 0 {
		t.Error(l, e)
	}
	// as many as can be
	p = widePlane()
	if l, e := load.Seat(p, slices.Repeat([]api.Span{exactly(60)}, api.LoadSeats), tank, dry(), false); e != api.OK || !slices.Equal(l, []int{0, 0, 0, 1, 1}) {
		t.Error(l, e)
	}
}

// TestSeatSmall checks P2.5 (Seat) against all seats, in lexicographic order.
func TestSeatSmall(t *testing.T) {
	r := newRandom()
	found, mended := 0, 0
	for i := range 3000 {
		p := smallPlane(r)
		x := smallPoint(r, p)
		x.Items = nil
		var weights []api.Span
		for range r.IntN(5) {
			weights = append(weights, part(r, span(0, 6), 2))
		}
		all := 1
		for range weights {
			all *= len(p.Stations)
		}
		var want []int
		is := false
		for number := 0; number < all && !is; number++ {
			want, x.Items = nil, nil
			for k, rest := len(weights)-1, number; k >= 0; k, rest = k-1, rest/len(p.Stations) {
				want = append(want, rest%len(p.Stations))
			}
			slices.Reverse(want)
			for k, s := range want {
				x.Items = append(x.Items, api.LoadItem{Station: s, Weight: weights[k]})
			}
			rule, _, _, _ := load.Sure(p, x)
			is = rule == api.LoadFine
		}
		l, e := load.Seat(p, weights, x.Tank, x.Water, x.Landing)
		if !is {
			want = nil
		}
		if (e == api.OK) != is || e != api.OK && e != api.ErrNone || !slices.Equal(l, want) {
			t.Fatal(i, p, weights, x, l, e, want)
		}
		if is {
			found++
			x.Items = nil
			if rule, _, _, _ := load.Sure(p, x); rule != api.LoadFine {
				mended++
			}
		}
	}
	if found < 300 || mended < 10 {
		t.Error(found, mended)
	}
}

func examplePeople() []api.LoadPerson {
	return []api.LoadPerson{
		{Weight: exactly(200), Station: 1, Worth: 5},
		{Weight: exactly(150), Station: 1, Worth: 4},
		{Weight: exactly(150), Station: 0, Worth: 3},
	}
}

// TestTake checks P2.5 (Take).
func TestTake(t *testing.T) {
	p, legs := examplePlane(), []api.LoadLeg{{}}
	if l, n, e := load.Take(p, exactly(100), legs, examplePeople()); e != api.OK || n != 8 || !slices.Equal(l, []int{0, 2}) {
		t.Error(l, n, e)
	}
	// the first one alone is too far behind
	if l, n, e := load.Take(p, exactly(100), legs, examplePeople()[:1]); e != api.OK || n != 0 || len(l) != 0 {
		t.Error(l, n, e)
	}
	if l, n, e := load.Take(p, exactly(100), legs, nil); e != api.OK || n != 0 || len(l) != 0 {
		t.Error(l, n, e)
	}
	if l, n, e := load.Take(p, exactly(30), legs, examplePeople()); e != api.ErrNone || n != 0 || l != nil {
		t.Error(l, n, e)
	}
	// the plane alone is not in balance, and is with somebody
	p.Moment = 93000
	if l, n, e := load.Take(p, exactly(0), []api.LoadLeg{{Fuel: 40}}, examplePeople()[2:]); e != api.ErrNone || n != 0 || l != nil {
		t.Error(l, n, e)
	}
	if l, n, e := load.Take(p, exactly(0), []api.LoadLeg{{Fuel: 40}}, examplePeople()[1:]); e != api.OK || n != 7 || !slices.Equal(l, []int{0, 1}) {
		t.Error(l, n, e)
	}
}

// TestTakeFirst checks P2.5 (Take): of several sets of the same worth, the first one is meant.
func TestTakeFirst(t *testing.T) {
	p, legs := widePlane(), []api.LoadLeg{{}}
	for i, one := range []struct {
		kilos  int
		worths []int
		want   []int
		worth  int
	}{
		{150, []int{0}, nil, 0},
		{150, []int{4, 0}, []int{0}, 4},
		{150, []int{0, 4}, []int{0, 1}, 4},
		{150, []int{4, 4, 4}, []int{0, 1}, 8},
		{150, []int{3, 4, 4, 3}, []int{1, 2}, 8},
		{300, []int{3, 4, 4, 3}, []int{1}, 4},
		{300, []int{0, 0}, nil, 0},
		{100, []int{1, 2, 3, 1, 2}, []int{1, 2, 4}, 7},
		{100, []int{1, 2, 1, 1, 1}, []int{0, 1, 2}, 4},
		{301, []int{1, 2, 3}, nil, 0},
	} {
		var people []api.LoadPerson
		for _, worth := range one.worths {
			people = append(people, api.LoadPerson{Weight: span(0, one.kilos), Station: 1, Worth: worth})
		}
		if l, n, e := load.Take(p, exactly(100), legs, people); e != api.OK || n != one.worth || !slices.Equal(l, one.want) {
			t.Error(i, l, n, e)
		}
	}
}

// TestTakeItems checks P2.5 (Take): no leg has too many items, and people are in their legs alone.
func TestTakeItems(t *testing.T) {
	p := widePlane()
	legs := []api.LoadLeg{{}, {Items: make([]api.LoadItem, api.LoadItems-1)}, {}}
	people := []api.LoadPerson{{Legs: span(0, 1), Worth: 2}, {Legs: span(1, 2), Worth: 2}, {Legs: span(0, 0), Worth: 1}, {Legs: span(2, 2), Worth: 1}, {Legs: span(0, 2), Worth: 3}}
	if l, n, e := load.Take(p, exactly(100), legs, people); e != api.OK || n != 5 || !slices.Equal(l, []int{2, 3, 4}) {
		t.Error(l, n, e)
	}
	legs[1].Items = make([]api.LoadItem, api.LoadItems)
	if l, n, e := load.Take(p, exactly(100), legs, people); e != api.OK || n != 2 || !slices.Equal(l, []int{2, 3}) {
		t.Error(l, n, e)
	}
	legs[1].Items = nil
	if l, n, e := load.Take(p, exactly(100), legs, people); e != api.OK || n != 9 || !slices.Equal(l, []int{0, 1, 2, 3, 4}) {
		t.Error(l, n, e)
	}
	// who is aboard in one leg leaves room in another one
	people = []api.LoadPerson{{Weight: exactly(200), Legs: span(0, 1), Worth: 3}, {Weight: exactly(150), Legs: span(0, 0), Worth: 2}, {Weight: exactly(150), Legs: span(1, 1), Worth: 2}, {Weight: exactly(60), Legs: span(1, 2), Worth: 2}}
	if l, n, e := load.Take(p, exactly(100), legs, people); e != api.OK || n != 4 || !slices.Equal(l, []int{1, 2}) {
		t.Error(l, n, e)
	}
}

// TestTakeErrors checks the errors of P2.5 (Take).
func TestTakeErrors(t *testing.T) {
	p := examplePlane()
	try := func(i int, p api.Plane, fuel api.Span, legs []api.LoadLeg, people []api.LoadPerson, want api.Errno) {
		t.Helper()
		if l, n, e := load.Take(p, fuel, legs, people); e != want || n != 0 || l != nil {
			t.Error(i, l, n, e)
		}
	}
	for i, change := range []func(*api.LoadPerson){
		func(one *api.LoadPerson) { one.Weight = span(-1, 0) },
		func(one *api.LoadPerson) { one.Weight = span(1, 0) },
		func(one *api.LoadPerson) { one.Weight = span(0, api.LoadKilos+1) },
		func(one *api.LoadPerson) { one.Station = -1 },
		func(one *api.LoadPerson) { one.Station = 2 },
		func(one *api.LoadPerson) { one.Legs = span(-1, 0) },
		func(one *api.LoadPerson) { one.Legs = span(1, 0) },
		func(one *api.LoadPerson) { one.Legs = span(0, 2) },
		func(one *api.LoadPerson) { one.Worth = -1 },
		func(one *api.LoadPerson) { one.Worth = api.LoadWorth + 1 },
	} {
		people := examplePeople()
		change(&people[2])
		try(i, p, exactly(100), make([]api.LoadLeg, 2), people, api.ErrArg)
	}
	fuels, trips := badTrips()
	for i, fuel := range fuels {
		try(i, p, fuel, trips[i], nil, api.ErrArg)
	}
	for i, bad := range badPlanes() {
		try(i, bad, exactly(100), []api.LoadLeg{{}}, nil, api.ErrArg)
	}
	try(0, p, exactly(100), []api.LoadLeg{{}}, make([]api.LoadPerson, api.LoadPeople+1), api.ErrLong)
	try(1, api.Plane{}, span(1, 0), nil, make([]api.LoadPerson, api.LoadPeople+1), api.ErrLong)
	try(2, api.Plane{}, span(1, 0), make([]api.LoadLeg, api.LoadLegs+1), nil, api.ErrLong)
	// as many as can be, of the greatest worth
	people := slices.Repeat([]api.LoadPerson{{Worth: api.LoadWorth, Legs: span(0, 5)}}, api.LoadPeople)
	if l, n, e := load.Take(widePlane(), exactly(100), make([]api.LoadLeg, api.LoadLegs), people); e != api.OK || n != 8*api.LoadWorth || len(l) != 8 {
		t.Error(l, n, e)
	}
}

// withPeople returns the legs of a trip with some people.
func withPeople(legs []api.LoadLeg, people []api.LoadPerson, taken []int) []api.LoadLeg {
	legs = copyOfLegs(legs)
	for _, k := range taken {
		for i := people[k].Legs.Low; i <= people[k].Legs.High; i++ {
			legs[i].Items = append(legs[i].Items, api.LoadItem{Station: people[k].Station, Weight: people[k].Weight})
		}
	}
	return legs
}

// TestTakeSmall checks P2.5 (Take) against all sets of people.
func TestTakeSmall(t *testing.T) {
	r := newRandom()
	found, mended := 0, 0
	for i := range 2000 {
		p := smallPlane(r)
		fuel, legs := part(r, span(2, 8), 2), smallLegs(r, p)
		var people []api.LoadPerson
		for range r.IntN(6) {
			people = append(people, api.LoadPerson{Weight: part(r, span(0, 6), 2), Station: r.IntN(len(p.Stations)), Legs: part(r, span(0, len(legs)-1), 2), Worth: r.IntN(4)})
		}
		var best []int
		most := -1
		for bits := range 1 << len(people) {
			var taken []int
			worth := 0
			for k, one := range people {
				if bits>>k&1 != 0 {
					taken, worth = append(taken, k), worth+one.Worth
				}
			}
			at, _, _, e := load.Trip(p, fuel, withPeople(legs, people, taken))
			if e == api.OK && at < 0 && (worth > most || worth == most && slices.Compare(taken, best) < 0) {
				best, most = taken, worth
			}
		}
		l, n, e := load.Take(p, fuel, legs, people)
		if most < 0 {
			if e != api.ErrNone || l != nil || n != 0 {
				t.Fatal(i, l, n, e)
			}
			continue
		}
		found++
		if e != api.OK || n != most || !slices.Equal(l, best) {
			t.Fatal(i, p, fuel, legs, people, l, n, e, best, most)
		}
		if at, _, _, _ := load.Trip(p, fuel, legs); at >= 0 {
			mended++
		}
	}
	if found < 200 || mended < 10 {
		t.Error(found, mended)
	}
}
