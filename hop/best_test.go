package hop_test

import (
	"slices"
	"strconv"
	"testing"

	"windsock/api"
	"windsock/hop"
)

// trials looks for the best policy of a day among all units, as the chapter defines it.
type trials struct {
	day   api.HopDay
	units [][]api.HopFlight
	known map[string]trial
}

// trial is the best unit, and the least cost.
type trial struct {
	unit []api.HopFlight
	cost int
}

// split returns the weathers of some in groups that have the same places open in a slot.
func (l *trials) split(weathers []int, slot int) [][]int {
	if slot == len(l.day.Weathers[0]) {
		return nil
	}
	groups := map[int][]int{}
	for _, w := range weathers {
		groups[l.day.Weathers[w][slot]] = append(groups[l.day.Weathers[w][slot]], w)
	}
	var all [][]int
	for _, group := range groups {
		all = append(all, group)
	}
	return all
}

// least returns the least cost ahead of a slot, with weathers that look alike until the one before.
func (l *trials) least(weathers []int, slot int, s api.HopState) int {
	if slot == len(l.day.Weathers[0]) {
		return costOf(l.day, s)
	}
	most := 0
	for _, group := range l.split(weathers, slot) {
		most = max(most, l.best(group, slot, s).cost)
	}
	return most
}

// keyOf returns a text that tells weathers, slots and states apart.
func keyOf(weather, slot int, s api.HopState) string {
	key := ""
	for _, list := range [][]int{{weather, slot}, s.Planes, s.Legs, s.People} {
		for _, x := range list {
			key += strconv.Itoa(x) + " "
		}
	}
	return key
}

// best returns the best unit of a slot for weathers that look alike until it.
func (l *trials) best(weathers []int, slot int, s api.HopState) trial {
	key := keyOf(weathers[0], slot, s)
	if one, seen := l.known[key]; seen {
		return one
	}
	best := trial{cost: 1 << 40}
	for _, unit := range l.units {
		behind, rule, _ := flown(l.day, s, l.day.Weathers[weathers[0]][slot], unit)
		if rule != api.HopFine {
			continue
		}
		if cost := l.least(weathers, slot+1, behind); cost < best.cost {
			best = trial{unit, cost}
		}
	}
	l.known[key] = best
	return best
}

// bestOf returns the best policy of a day, and its cost.
func bestOf(d api.HopDay) ([][][]api.HopFlight, int) {
	l := &trials{d, allUnits(d), map[string]trial{}}
	var policy [][][]api.HopFlight
	var all []int
	for w := range d.Weathers {
		all = append(all, w)
	}
	for w, slots := range d.Weathers {
		var units [][]api.HopFlight
		group, s := all, startOf(d)
		for slot, open := range slots {
			group = slices.DeleteFunc(slices.Clone(group), func(other int) bool { return d.Weathers[other][slot] != d.Weathers[w][slot] })
			unit := l.best(group, slot, s).unit
			s, _, _ = flown(d, s, open, unit)
			units = append(units, unit)
		}
		policy = append(policy, units)
	}
	return policy, l.least(all, 0, startOf(d))
}

// TestBest checks P4.4 and P4.5 for the days of the chapter, and some like them.
func TestBest(t *testing.T) {
	rest := flights(stay(), stay(), stay())
	out := flights(to(1), stay(), to(0, 0))
	late := flights(stay(), to(1), to(0, 0))
	waits := exampleDay()
	waits.Weathers = [][]int{{7, 7, 7}, {5, 7, 7}}
	shut := exampleDay()
	shut.Weathers = [][]int{{5, 5, 5}}
	tired := exampleDay()
	tired.Planes[0].Duty = 1
	rescued := exampleDay()
	rescued.Planes[0].Duty, rescued.Planes[0].Home = 1, 1
	lodged := exampleDay()
	lodged.People[0].To, lodged.Places[1].Lodge = 2, true
	worse := exampleDay()
	worse.Weathers = [][]int{{7, 7, 7}, {7, 5, 5}}
	apart := exampleDay()
	apart.Weathers = [][]int{{7, 7, 7}, {5, 5, 5}}
	for i, one := range []struct {
		day   api.HopDay
		want  [][][]api.HopFlight
		cost  int
		known []int
	}{
		{exampleDay(), [][][]api.HopFlight{out, out}, 0, []int{0, 0}},
		{exampleShortDay(), [][][]api.HopFlight{rest[:2], rest[:2]}, 10, []int{0, 10}},
		// what is shut at first is waited for, and staying comes first where it is open as well
		{waits, [][][]api.HopFlight{late, late}, 0, []int{0, 0}},
		{shut, [][][]api.HopFlight{rest}, 10, []int{10}},
		// one leg is not enough to come back, but enough to come home
		{tired, [][][]api.HopFlight{rest, rest}, 10, []int{10, 10}},
		{rescued, [][][]api.HopFlight{flights(stay(), stay(), to(1)), flights(stay(), stay(), to(1))}, 10, []int{10, 10}},
		// the second weather costs 4 in any case, so that nothing needs to be better in the first one
		{lodged, [][][]api.HopFlight{rest, rest}, 4, []int{3, 4}},
		{worse, [][][]api.HopFlight{late, rest}, 10, []int{0, 10}},
		// what does not look alike from the first slot on does not need to be the same
		{apart, [][][]api.HopFlight{late, rest}, 10, []int{0, 10}},
	} {
		l, n, e := hop.Best(one.day)
		if e != api.OK || n != one.cost || !samePolicies(l, one.want) {
			t.Error(i, l, n, e)
		}
		for w, want := range one.known {
			if n, e := hop.Known(one.day, w); e != api.OK || n != want {
				t.Error(i, w, n, e)
			}
		}
	}
}

// TestBestOrder checks P4.4: the order of units, by To first, and people in lexicographic order.
func TestBestOrder(t *testing.T) {
	d := exampleDay()
	d.Weathers = [][]int{{7}}
	d.Planes[0] = api.HopPlane{At: 0, Home: 2, Seats: 3, Duty: 1, Away: 1}
	person := api.HopPerson{At: 0, To: 2, Seats: 1, Strand: 5, Lodged: 5}
	d.People = []api.HopPerson{person, person, person, person}
	d.People[2].Strand, d.People[2].Lodged = 5, 4
	for i, one := range []struct {
		change func(*api.HopDay)
		want   api.HopFlight
		cost   int
	}{
		// of four people the one whose lodging costs least stays
		{func(*api.HopDay) {}, to(2, 0, 1, 3), 4},
		// all cost the same: 0 1 2 comes first
		{func(d *api.HopDay) { d.People[2].Lodged = 5 }, to(2, 0, 1, 2), 5},
		// 0 2 comes ahead of 1 and 2 3
		{func(d *api.HopDay) { d.Planes[0].Seats, d.People[2].Lodged = 2, 6 }, to(2, 0, 2), 10},
		// where it costs nothing not to come along, the list that ends first comes first
		{func(d *api.HopDay) { d.People[1].Lodged, d.People[3].Lodged = 0, 0 }, to(2, 0, 1, 2), 0},
		{func(d *api.HopDay) { d.People[1].To, d.People[2].To, d.People[3].To = 0, 0, 0 }, to(2, 0), 0},
		// staying comes ahead of all flights, and 1 ahead of 2
		{func(d *api.HopDay) { d.People, d.Planes[0].Away = nil, 0 }, stay(), 0},
		{func(d *api.HopDay) {
			d.People, d.Places[0].Berths, d.Planes[0].Home = nil, 1, 1
		}, to(1), 0},
	} {
		day := copyOfDay(d)
		one.change(&day)
		l, n, e := hop.Best(day)
		if e != api.OK || n != one.cost || !samePolicies(l, [][][]api.HopFlight{{{one.want}}}) {
			t.Error(i, l, n, e)
		}
	}
}

// TestBestBerths checks P4.4: planes that need each other's berth, and people who need both.
func TestBestBerths(t *testing.T) {
	d := api.HopDay{
		Places:   []api.HopPlace{{Berths: 1}, {Berths: 1}},
		Links:    []api.HopLink{{One: 1, Other: 0}},
		Planes:   []api.HopPlane{{At: 0, Home: 1, Seats: 2, Duty: 5, Away: 9}, {At: 1, Home: 0, Seats: 1, Duty: 1, Away: 7}},
		People:   []api.HopPerson{{At: 0, To: 1, Seats: 2, Strand: 30}, {At: 1, To: 0, Seats: 1, Strand: 20}},
		Weathers: [][]int{{3}},
	}
	swap := [][][]api.HopFlight{{{to(1, 0), to(0, 1)}}}
	if l, n, e := hop.Best(d); e != api.OK || n != 0 || !samePolicies(l, swap) {
		t.Error(l, n, e)
	}
	d.Planes[1].Duty = 0
	if l, n, e := hop.Best(d); e != api.OK || n != 66 || !samePolicies(l, [][][]api.HopFlight{{{stay(), stay()}}}) {
		t.Error(l, n, e)
	}
	d.Places[1].Berths = 2
	if l, n, e := hop.Best(d); e != api.OK || n != 27 || !samePolicies(l, [][][]api.HopFlight{{{to(1, 0), stay()}}}) {
		t.Error(l, n, e)
	}
	d.Weathers = [][]int{{3, 3}}
	if l, n, e := hop.Best(d); e != api.OK || n != 16 || !samePolicies(l, [][][]api.HopFlight{{{to(1, 0), stay()}, {to(0, 1), stay()}}}) {
		t.Error(l, n, e)
	}
	// without planes, or with nobody to fly
	d.Planes = nil
	if l, n, e := hop.Best(d); e != api.OK || n != 50 || !samePolicies(l, [][][]api.HopFlight{{nil, nil}}) {
		t.Error(l, n, e)
	}
}

// TestBestSmall checks P4.4 and P4.5 against a search among all units of each slot.
func TestBestSmall(t *testing.T) {
	r := newRandom()
	moved, dear := 0, 0
	for i := range 1500 {
		most := [...]sizes{{3, 1, 2, 4, 4}, {3, 2, 2, 3, 4}, {4, 2, 2, 2, 6}, {5, 1, 3, 3, 3}}[i%4]
		d := randomDay(r, most)
		if i%3 == 0 {
			d = doubtfulDay(r)
		}
		want, cost := bestOf(d)
		l, n, e := hop.Best(d)
		if e != api.OK || n != cost || !samePolicies(l, want) {
			t.Fatal(i, d, l, n, e, want, cost)
		}
		if n, w, f, e := hop.Worst(d, l); e != api.OK || n != cost || f != fineFault {
			t.Fatal(i, d, l, n, w, f, e)
		}
		if rest, _ := hop.Cost(d, startOf(d)); cost < rest {
			moved++
		}
		best := 0
		for w, weather := range d.Weathers {
			alone := d
			alone.Weathers = [][]int{weather}
			_, want := bestOf(alone)
			known, e := hop.Known(d, w)
			if e != api.OK || known != want || known > cost {
				t.Fatal(i, d, w, known, e, want, cost)
			}
			if _, same, e := hop.Best(alone); e != api.OK || same != known {
				t.Fatal(i, d, w, known, same, e)
			}
			best = max(best, known)
		}
		if best < cost {
			dear++
		}
	}
	if moved < 500 || dear < 20 {
		t.Error(moved, dear)
	}
}

// TestBestOfAll checks P4.4: of all policies of very small days that keep the rules, none costs less.
func TestBestOfAll(t *testing.T) {
	r := newRandom()
	kept := 0
	for i := range 150 {
		d := randomDay(r, sizes{2, 1, 1, 3, 2})
		_, cost, e := hop.Best(d)
		all := allUnits(d)
		least := -1
		var policy [][][]api.HopFlight
		var try func(weather int, units [][]api.HopFlight)
		try = func(weather int, units [][]api.HopFlight) {
			if len(units) == len(d.Weathers[0]) {
				policy = append(policy, slices.Clone(units))
				if weather+1 < len(d.Weathers) {
					try(weather+1, nil)
				} else if n, _, f, _ := hop.Worst(d, policy); f == fineFault {
					kept++
					if least < 0 || n < least {
						least = n
					}
				}
				policy = policy[:weather]
				return
			}
			for _, unit := range all {
				try(weather, append(slices.Clone(units), unit))
			}
		}
		try(0, nil)
		if e != api.OK || cost != least {
			t.Fatal(i, d, cost, e, least)
		}
	}
	if kept < 500 {
		t.Error(kept)
	}
}

// greatDay is a day with as much of everything as there can be.
func greatDay() api.HopDay {
	var d api.HopDay
	for place := range api.HopPlaces {
		d.Places = append(d.Places, api.HopPlace{Berths: 1 + place%2, Lodge: place == 3})
		for other := range place {
			d.Links = append(d.Links, api.HopLink{One: place, Other: other})
		}
	}
	d.Planes = []api.HopPlane{{At: 0, Home: 4, Seats: 3, Duty: 4, Away: 50}, {At: 1, Home: 4, Seats: 2, Duty: api.HopSeats, Away: 60}}
	d.People = []api.HopPerson{
		{At: 0, To: 3, Seats: 2, Strand: 90, Lodged: 40},
		{At: 2, To: 1, Seats: 1, Strand: 80, Lodged: 10},
		{At: 3, To: 0, Seats: 2, Strand: 70, Lodged: 20},
		{At: 4, To: 2, Seats: 1, Strand: 60, Lodged: 30},
	}
	d.Weathers = [][]int{{31, 31, 31, 31, 31}, {31, 31, 31, 31, 15}, {31, 31, 31, 23, 31}, {31, 31, 23, 30, 31}, {31, 29, 31, 29, 31}, {27, 31, 31, 23, 31}}
	return d
}

// TestBestGreat checks P4.4 and P4.5 for great days: the policy keeps the rules, costs what is told,
// and not more than others that are made at random.
func TestBestGreat(t *testing.T) {
	r := newRandom()
	days := []api.HopDay{greatDay()}
	for range 30 {
		days = append(days, randomDay(r, sizes{5, 2, 4, 5, 6}))
	}
	for i, d := range days {
		l, cost, e := hop.Best(d)
		if e != api.OK {
			t.Fatal(i, e)
		}
		costs, fault := faultOf(d, l)
		if fault != fineFault || slices.Max(costs) != cost {
			t.Fatal(i, d, l, cost, costs, fault)
		}
		for w := range d.Weathers {
			if n, e := hop.Known(d, w); e != api.OK || n > costs[w] {
				t.Fatal(i, d, w, n, e, costs)
			}
		}
		for range 20 {
			if n, _, f, e := hop.Worst(d, randomPolicy(r, d)); e != api.OK || f != fineFault || n < cost {
				t.Fatal(i, d, n, f, e, cost)
			}
		}
	}
}

// TestBestErrors checks the errors of P4.4 and P4.5.
func TestBestErrors(t *testing.T) {
	for i, bad := range badDays() {
		if l, n, e := hop.Best(bad); e != api.ErrArg || l != nil || n != 0 {
			t.Error(i, l, n, e)
		}
		if n, e := hop.Known(bad, 0); e != api.ErrArg || n != 0 {
			t.Error(i, n, e)
		}
	}
	for _, weather := range []int{-1, 2} {
		if n, e := hop.Known(exampleShortDay(), weather); e != api.ErrArg || n != 0 {
			t.Error(weather, n, e)
		}
	}
}
