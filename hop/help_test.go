package hop_test

import (
	"cmp"
	"math/rand/v2"
	"slices"

	"windsock/api"
)

func span(low, high int) api.Span { return api.Span{Low: low, High: high} }

// newRandom returns numbers that are the same in each run.
func newRandom() *rand.Rand { return rand.New(rand.NewPCG(44, 16)) }

// within returns a number of a span.
func within(r *rand.Rand, s api.Span) int { return s.Low + r.IntN(s.High-s.Low+1) }

// part returns a span within a span.
func part(r *rand.Rand, s api.Span) api.Span {
	low := within(r, s)
	return span(low, within(r, span(low, s.High)))
}

// exampleChain is the chain c of the chapter.
func exampleChain() api.HopChain {
	return api.HopChain{
		Stops: []api.HopStop{
			{Windows: []api.Span{span(480, 600)}},
			{Windows: []api.Span{span(500, 560), span(640, 700)}, Turn: 10},
			{Windows: []api.Span{span(520, 580), span(690, 760)}},
		},
		Legs: []api.Span{span(30, 40), span(20, 50)},
	}
}

// exampleDay is the day d of the chapter.
func exampleDay() api.HopDay {
	return api.HopDay{
		Places:   []api.HopPlace{{Berths: 2, Lodge: true}, {Berths: 1}, {Berths: 1, Lodge: true}},
		Links:    []api.HopLink{{One: 0, Other: 1}, {One: 0, Other: 2}},
		Planes:   []api.HopPlane{{At: 0, Home: 0, Seats: 2, Duty: 3, Away: 3}},
		People:   []api.HopPerson{{At: 1, To: 0, Seats: 1, Strand: 10, Lodged: 4}},
		Weathers: [][]int{{7, 7, 7}, {7, 5, 7}},
	}
}

// exampleShortDay is the day e of the chapter.
func exampleShortDay() api.HopDay {
	d := exampleDay()
	d.Weathers = [][]int{{7, 7}, {7, 5}}
	return d
}

// twoPlanes is the day of the chapter with a second plane, which has no seats and one leg.
func twoPlanes() api.HopDay {
	d := exampleDay()
	d.Planes = append(d.Planes, api.HopPlane{Seats: 0, Duty: 1})
	return d
}

func copyOfChain(c api.HopChain) api.HopChain {
	c.Stops, c.Legs = slices.Clone(c.Stops), slices.Clone(c.Legs)
	for i := range c.Stops {
		c.Stops[i].Windows = slices.Clone(c.Stops[i].Windows)
	}
	return c
}

func copyOfDay(d api.HopDay) api.HopDay {
	d.Places, d.Links = slices.Clone(d.Places), slices.Clone(d.Links)
	d.Planes, d.People = slices.Clone(d.Planes), slices.Clone(d.People)
	d.Weathers = slices.Clone(d.Weathers)
	for i := range d.Weathers {
		d.Weathers[i] = slices.Clone(d.Weathers[i])
	}
	return d
}

func copyOfState(s api.HopState) api.HopState {
	return api.HopState{Planes: slices.Clone(s.Planes), Legs: slices.Clone(s.Legs), People: slices.Clone(s.People)}
}

// to returns a flight to a place, with some people.
func to(place int, people ...int) api.HopFlight { return api.HopFlight{To: place, People: people} }

// stay returns the flight of a plane that stays.
func stay() api.HopFlight { return api.HopFlight{To: -1} }

// flights returns the units of a day with one plane.
func flights(each ...api.HopFlight) [][]api.HopFlight {
	var units [][]api.HopFlight
	for _, f := range each {
		units = append(units, []api.HopFlight{f})
	}
	return units
}

func compareFlights(a, b api.HopFlight) int {
	return cmp.Or(cmp.Compare(a.To, b.To), slices.Compare(a.People, b.People))
}

func compareUnits(a, b []api.HopFlight) int { return slices.CompareFunc(a, b, compareFlights) }

func sameUnits(a, b [][]api.HopFlight) bool {
	return slices.EqualFunc(a, b, func(a, b []api.HopFlight) bool { return compareUnits(a, b) == 0 })
}

func samePolicies(a, b [][][]api.HopFlight) bool { return slices.EqualFunc(a, b, sameUnits) }

func sameStates(a, b api.HopState) bool {
	return slices.Equal(a.Planes, b.Planes) && slices.Equal(a.Legs, b.Legs) && slices.Equal(a.People, b.People)
}

// smallWindows returns windows of a short day, which end before some minute.
func smallWindows(r *rand.Rand, end int) []api.Span {
	var windows []api.Span
	for low := r.IntN(10); low < end && len(windows) < api.HopWindows; {
		high := min(end-1, low+r.IntN(1+end/3))
		windows = append(windows, span(low, high))
		low = high + 2 + r.IntN(6)
	}
	return windows
}

// smallChain returns a chain of a short day.
func smallChain(r *rand.Rand) api.HopChain {
	var c api.HopChain
	end := 30 + r.IntN(60)
	for i := range 2 + r.IntN(4) {
		c.Stops = append(c.Stops, api.HopStop{Windows: smallWindows(r, end), Turn: r.IntN(8)})
		if i > 0 {
			c.Legs = append(c.Legs, part(r, span(0, 7)))
		}
	}
	return c
}

// sizes are how much of each there is at most in a day that is made at random.
type sizes struct {
	places, planes, people, slots, weathers int
}

// many returns a number that often is the greatest one.
func many(r *rand.Rand, least, most int) int {
	if r.IntN(3) == 0 {
		return within(r, span(least, most))
	}
	return most
}

// randomDay returns a day. Most places are open in most slots, and weathers tend to begin alike.
func randomDay(r *rand.Rand, most sizes) api.HopDay {
	var d api.HopDay
	places, slots := many(r, 1, most.places), many(r, 1, most.slots)
	place := func() int { return r.IntN(places) }
	for i := range places {
		d.Places = append(d.Places, api.HopPlace{Berths: many(r, 0, 2), Lodge: r.IntN(3) == 0})
		for other := range i {
			switch r.IntN(5) {
			case 0, 1:
				d.Links = append(d.Links, api.HopLink{One: i, Other: other})
			case 2, 3:
				d.Links = append(d.Links, api.HopLink{One: other, Other: i})
			}
		}
	}
	for range many(r, 0, most.planes) {
		p := api.HopPlane{At: place(), Home: place(), Seats: r.IntN(5), Duty: many(r, 0, 5), Away: r.IntN(6)}
		d.Planes = append(d.Planes, p)
		d.Places[p.At].Berths = max(d.Places[p.At].Berths, len(d.Planes))
	}
	for range many(r, 0, most.people) {
		d.People = append(d.People, api.HopPerson{At: place(), To: place(), Seats: 1 + r.IntN(3), Strand: r.IntN(20), Lodged: r.IntN(10)})
	}
	for i := range many(r, 1, most.weathers) {
		weather := make([]int, slots)
		same := r.IntN(slots)
		for slot := range weather {
			weather[slot] = r.IntN(1<<places) | r.IntN(1<<places)
			if r.IntN(2) == 0 {
				weather[slot] = 1<<places - 1
			}
			if i > 0 && slot < same {
				weather[slot] = d.Weathers[0][slot]
			}
		}
		d.Weathers = append(d.Weathers, weather)
	}
	return d
}

// doubtfulDay returns a day in which people wait at some places for a plane, and nobody knows ahead
// which of these places are shut later.
func doubtfulDay(r *rand.Rand) api.HopDay {
	d := api.HopDay{Places: []api.HopPlace{{Berths: 2}}, Planes: []api.HopPlane{{Seats: 1 + r.IntN(2), Duty: many(r, 2, 4), Away: r.IntN(4)}}}
	for place := 1; place <= 2+r.IntN(2); place++ {
		d.Places = append(d.Places, api.HopPlace{Berths: 1, Lodge: r.IntN(3) == 0})
		d.Links = append(d.Links, api.HopLink{One: place, Other: r.IntN(place)})
		d.People = append(d.People, api.HopPerson{At: place, Seats: 1, Strand: 5 + r.IntN(5), Lodged: r.IntN(5)})
	}
	all := 1<<len(d.Places) - 1
	slots := 3 + r.IntN(2)
	for range 2 + r.IntN(2) {
		weather := slices.Repeat([]int{all}, slots)
		for slot := 1; slot < slots; slot++ {
			weather[slot] &^= r.IntN(1<<len(d.Places)) &^ 1
		}
		d.Weathers = append(d.Weathers, weather)
	}
	return d
}

// startOf returns the state at the beginning of a day.
func startOf(d api.HopDay) api.HopState {
	var s api.HopState
	for _, p := range d.Planes {
		s.Planes = append(s.Planes, p.At)
		s.Legs = append(s.Legs, 0)
	}
	for _, p := range d.People {
		s.People = append(s.People, p.At)
	}
	return s
}

// randomState returns a state, in which there may be more planes at a place than berths.
func randomState(r *rand.Rand, d api.HopDay) api.HopState {
	s := startOf(d)
	for i := range s.Planes {
		s.Planes[i] = r.IntN(len(d.Places))
		s.Legs[i] = r.IntN(api.HopSlots + 1)
	}
	for i := range s.People {
		s.People[i] = r.IntN(len(d.Places))
	}
	return s
}

// allFlights returns all flights of a plane, whether they break a rule or not, in their order.
func allFlights(d api.HopDay) []api.HopFlight {
	all := []api.HopFlight{stay()}
	for place := range d.Places {
		for set := range 1 << len(d.People) {
			f := to(place)
			for person := range d.People {
				if set>>person&1 == 1 {
					f.People = append(f.People, person)
				}
			}
			all = append(all, f)
		}
	}
	slices.SortFunc(all, compareFlights)
	return all
}

// allUnits returns all units of a day, whether they break a rule or not, in their order.
func allUnits(d api.HopDay) [][]api.HopFlight {
	units := [][]api.HopFlight{nil}
	for range d.Planes {
		var longer [][]api.HopFlight
		for _, u := range units {
			for _, f := range allFlights(d) {
				longer = append(longer, append(slices.Clone(u), f))
			}
		}
		units = longer
	}
	return units
}

// areLinked reports whether there is a link between two places.
func areLinked(d api.HopDay, one, other int) bool {
	return slices.Contains(d.Links, api.HopLink{One: one, Other: other}) || slices.Contains(d.Links, api.HopLink{One: other, Other: one})
}

// ruleOf returns the first rule that a flight breaks in a state; HopFine if it breaks none. Before
// it, other planes have flown.
func ruleOf(d api.HopDay, s api.HopState, open, plane int, f api.HopFlight, before []api.HopFlight) api.HopRule {
	from, seats, missing := s.Planes[plane], 0, false
	for _, person := range f.People {
		seats += d.People[person].Seats
		missing = missing || s.People[person] != from
		for _, other := range before {
			missing = missing || slices.Contains(other.People, person)
		}
	}
	switch {
	case f.To < 0:
		return api.HopFine
	case !areLinked(d, from, f.To):
		return api.HopLinked
	case open&(1<<from) == 0 || open&(1<<f.To) == 0:
		return api.HopShut
	case s.Legs[plane] >= d.Planes[plane].Duty:
		return api.HopTired
	case missing:
		return api.HopHere
	case seats > d.Planes[plane].Seats:
		return api.HopSeated
	}
	return api.HopFine
}

// flown returns what Fly is expected to return.
func flown(d api.HopDay, s api.HopState, open int, unit []api.HopFlight) (api.HopState, api.HopRule, int) {
	behind := copyOfState(s)
	for plane, f := range unit {
		if rule := ruleOf(d, s, open, plane, f, unit[:plane]); rule != api.HopFine {
			return s, rule, plane
		}
		if f.To < 0 {
			continue
		}
		behind.Planes[plane] = f.To
		behind.Legs[plane]++
		for _, person := range f.People {
			behind.People[person] = f.To
		}
	}
	planes := make([]int, len(d.Places))
	for _, place := range behind.Planes {
		planes[place]++
	}
	for place, p := range d.Places {
		if planes[place] > p.Berths {
			return s, api.HopBerth, -1
		}
	}
	return behind, api.HopFine, -1
}

// costOf returns the cost of a state.
func costOf(d api.HopDay, s api.HopState) int {
	sum := 0
	for i, p := range d.Planes {
		if s.Planes[i] != p.Home {
			sum += p.Away
		}
	}
	for i, p := range d.People {
		switch place := s.People[i]; {
		case place == p.To:
		case d.Places[place].Lodge:
			sum += p.Lodged
		default:
			sum += p.Strand
		}
	}
	return sum
}

// lookAlike reports whether two weathers look alike until a slot.
func lookAlike(d api.HopDay, one, other, slot int) bool {
	return slices.Equal(d.Weathers[one][:slot+1], d.Weathers[other][:slot+1])
}
