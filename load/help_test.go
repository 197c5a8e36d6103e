package load_test

import (
	"cmp"
	"math/rand/v2"
	"slices"

	"windsock/api"
)

func span(low, high int) api.Span { return api.Span{Low: low, High: high} }

func exactly(x int) api.Span { return span(x, x) }

func holds(s api.Span, x int) bool { return s.Low <= x && x <= s.High }

// newRandom returns numbers that are the same in each run.
func newRandom() *rand.Rand { return rand.New(rand.NewPCG(22, 54)) }

// within returns a number of a span.
func within(r *rand.Rand, s api.Span) int { return s.Low + r.IntN(s.High-s.Low+1) }

// part returns a span within a span, and at most so wide.
func part(r *rand.Rand, s api.Span, wide int) api.Span {
	low := within(r, s)
	return span(low, min(s.High, low+r.IntN(wide+1)))
}

// examplePlane is the plane p of the chapter.
func examplePlane() api.Plane {
	return api.Plane{
		Empty: 1000, Moment: 100000, Takeoff: 2000, Landing: 1900, Reserve: 40,
		Corners:  []api.LoadCorner{{Weight: 1000, Moment: 95000}, {Weight: 2000, Moment: 190000}, {Weight: 2000, Moment: 230000}, {Weight: 1000, Moment: 115000}},
		Stations: []api.LoadStation{{Arm: 90, Most: 200}, {Arm: 200, Most: 300}},
		Tank:     api.LoadStation{Arm: 120, Most: 200},
		Floats:   []api.LoadStation{{Arm: 100, Most: 50}, {Arm: 100, Most: 50}},
	}
}

// examplePoint is the point a of the chapter.
func examplePoint() api.LoadPoint {
	return api.LoadPoint{
		Items: []api.LoadItem{{Station: 0, Weight: span(70, 90)}, {Station: 1, Weight: span(100, 140)}},
		Tank:  span(100, 100),
		Water: []api.Span{span(0, 10), span(0, 10)},
	}
}

// exampleLegs are the legs of the trip t of the chapter.
func exampleLegs() []api.LoadLeg {
	items := examplePoint().Items
	return []api.LoadLeg{
		{Items: items, Burn: span(30, 40), Leak: span(0, 5)},
		{Items: []api.LoadItem{items[0]}, Burn: span(60, 80), Leak: span(0, 5)},
	}
}

// widePlane is a plane that no load of a trip can bring out of balance.
func widePlane() api.Plane {
	p := examplePlane()
	p.Corners = []api.LoadCorner{{Weight: 0, Moment: -api.LoadMoment}, {Weight: api.LoadKilos, Moment: -api.LoadMoment}, {Weight: api.LoadKilos, Moment: api.LoadMoment}, {Weight: 0, Moment: api.LoadMoment}}
	return p
}

func copyOfPlane(p api.Plane) api.Plane {
	p.Corners = slices.Clone(p.Corners)
	p.Stations = slices.Clone(p.Stations)
	p.Floats = slices.Clone(p.Floats)
	return p
}

func copyOfPoint(x api.LoadPoint) api.LoadPoint {
	x.Items = slices.Clone(x.Items)
	x.Water = slices.Clone(x.Water)
	return x
}

func copyOfLegs(legs []api.LoadLeg) []api.LoadLeg {
	legs = slices.Clone(legs)
	for i := range legs {
		legs[i].Items = slices.Clone(legs[i].Items)
	}
	return legs
}

// breach is a rule that is broken, and its index.
type breach struct {
	rule  api.LoadRule
	index int
}

// turn returns the side of a corner or of a load at the line from one corner to another one.
func turn(from, to, x api.LoadCorner) int {
	return (to.Weight-from.Weight)*(x.Moment-from.Moment) - (to.Moment-from.Moment)*(x.Weight-from.Weight)
}

// loadOf returns the weight and the moment of a load in truth.
func loadOf(p api.Plane, x api.LoadPoint, c api.LoadCase) api.LoadCorner {
	sum := api.LoadCorner{Weight: p.Empty + c.Tank, Moment: p.Moment + c.Tank*p.Tank.Arm}
	for i, w := range c.Items {
		sum.Weight += w
		sum.Moment += w * p.Stations[x.Items[i].Station].Arm
	}
	for i, w := range c.Water {
		sum.Weight += w
		sum.Moment += w * p.Floats[i].Arm
	}
	return sum
}

// breachesOf returns what a load in truth breaks, in the order of the table of rules.
func breachesOf(p api.Plane, x api.LoadPoint, c api.LoadCase) []breach {
	var found []breach
	note := func(broken bool, rule api.LoadRule, index int) {
		if broken {
			found = append(found, breach{rule, index})
		}
	}
	for s := range p.Stations {
		sum := 0
		for i, w := range c.Items {
			if x.Items[i].Station == s {
				sum += w
			}
		}
		note(sum > p.Stations[s].Most, api.LoadOver, s)
	}
	note(c.Tank > p.Tank.Most, api.LoadFull, 0)
	for i, w := range c.Water {
		note(w > p.Floats[i].Most, api.LoadWet, i)
	}
	load := loadOf(p, x, c)
	note(x.Landing && load.Weight > p.Landing || !x.Landing && load.Weight > p.Takeoff, api.LoadHeavy, 0)
	for i, from := range p.Corners {
		note(turn(from, p.Corners[(i+1)%len(p.Corners)], load) < 0, api.LoadOut, i)
	}
	note(x.Landing && c.Tank < p.Reserve, api.LoadShort, 0)
	return found
}

// cases returns all loads in truth of a point.
func cases(x api.LoadPoint) []api.LoadCase {
	all := []api.LoadCase{{}}
	extend := func(s api.Span, add func(*api.LoadCase, int)) {
		var more []api.LoadCase
		for _, c := range all {
			for w := s.Low; w <= s.High; w++ {
				next := api.LoadCase{Items: slices.Clone(c.Items), Tank: c.Tank, Water: slices.Clone(c.Water)}
				add(&next, w)
				more = append(more, next)
			}
		}
		all = more
	}
	for _, item := range x.Items {
		extend(item.Weight, func(c *api.LoadCase, w int) { c.Items = append(c.Items, w) })
	}
	extend(x.Tank, func(c *api.LoadCase, w int) { c.Tank = w })
	for _, water := range x.Water {
		extend(water, func(c *api.LoadCase, w int) { c.Water = append(c.Water, w) })
	}
	return all
}

// firstBreach returns the first rule, with the least index, that some load in truth breaks.
func firstBreach(p api.Plane, x api.LoadPoint) breach {
	first := breach{api.LoadFine, 0}
	for _, c := range cases(x) {
		for _, b := range breachesOf(p, x, c) {
			if first.rule == api.LoadFine || cmp.Or(cmp.Compare(b.rule, first.rule), cmp.Compare(b.index, first.index)) < 0 {
				first = b
			}
		}
	}
	return first
}

// hull returns the corners of the polygon around some corners, or nothing if there is none.
func hull(corners []api.LoadCorner) []api.LoadCorner {
	slices.SortFunc(corners, func(a, b api.LoadCorner) int {
		return cmp.Or(cmp.Compare(a.Weight, b.Weight), cmp.Compare(a.Moment, b.Moment))
	})
	half := func(corners []api.LoadCorner) []api.LoadCorner {
		var chain []api.LoadCorner
		for _, c := range corners {
			for len(chain) > 1 && turn(chain[len(chain)-2], chain[len(chain)-1], c) <= 0 {
				chain = chain[:len(chain)-1]
			}
			chain = append(chain, c)
		}
		return chain[:len(chain)-1]
	}
	lower := half(corners)
	slices.Reverse(corners)
	all := append(lower, half(corners)...)
	if len(all) < 3 {
		return nil
	}
	return all
}

// smallCorners returns an envelope of few and small numbers.
func smallCorners(r *rand.Rand) []api.LoadCorner {
	for {
		var corners []api.LoadCorner
		for range 3 + r.IntN(5) {
			corners = append(corners, api.LoadCorner{Weight: r.IntN(50), Moment: r.IntN(161) - 80})
		}
		if corners = hull(corners); corners != nil {
			at := r.IntN(len(corners))
			return append(slices.Clone(corners[at:]), corners[:at]...)
		}
	}
}

func smallStation(r *rand.Rand) api.LoadStation {
	return api.LoadStation{Arm: r.IntN(9) - 4, Most: 3 + r.IntN(10)}
}

// smallPlane returns a plane whose limits are near to what small points have.
func smallPlane(r *rand.Rand) api.Plane {
	p := api.Plane{Empty: 5 + r.IntN(10), Moment: r.IntN(21) - 10, Takeoff: 15 + r.IntN(35), Landing: 15 + r.IntN(35), Reserve: r.IntN(4)}
	p.Corners = smallCorners(r)
	if r.IntN(2) == 0 {
		p.Corners = []api.LoadCorner{{Weight: 0, Moment: -60 - r.IntN(20)}, {Weight: 50, Moment: -20 - r.IntN(50)}, {Weight: 50, Moment: 20 + r.IntN(50)}, {Weight: 0, Moment: 60 + r.IntN(20)}}
	}
	for range 1 + r.IntN(3) {
		p.Stations = append(p.Stations, smallStation(r))
	}
	p.Tank = smallStation(r)
	for range r.IntN(api.LoadFloats + 1) {
		p.Floats = append(p.Floats, smallStation(r))
	}
	return p
}

func smallItems(r *rand.Rand, p api.Plane, most int) []api.LoadItem {
	var items []api.LoadItem
	for range r.IntN(most + 1) {
		items = append(items, api.LoadItem{Station: r.IntN(len(p.Stations)), Weight: part(r, span(0, 6), 2)})
	}
	return items
}

// smallPoint returns a point that has few loads in truth.
func smallPoint(r *rand.Rand, p api.Plane) api.LoadPoint {
	x := api.LoadPoint{Items: smallItems(r, p, 3), Tank: part(r, span(-1, 9), 2), Landing: r.IntN(2) == 0}
	for range p.Floats {
		x.Water = append(x.Water, part(r, span(0, 5), 2))
	}
	return x
}

// smallLegs returns the legs of a trip of small numbers.
func smallLegs(r *rand.Rand, p api.Plane) []api.LoadLeg {
	var legs []api.LoadLeg
	for range 1 + r.IntN(3) {
		legs = append(legs, api.LoadLeg{Items: smallItems(r, p, 2), Pump: r.IntN(2) == 0, Fuel: max(0, r.IntN(5)-2), Burn: part(r, span(0, 3), 1), Leak: part(r, span(0, 2), 1)})
	}
	return legs
}

// anyLegs returns the legs of a trip of any numbers that are as defined.
func anyLegs(r *rand.Rand, stations int) []api.LoadLeg {
	kilos := span(0, api.LoadKilos)
	var legs []api.LoadLeg
	for range 1 + r.IntN(api.LoadLegs) {
		leg := api.LoadLeg{Pump: r.IntN(2) == 0, Fuel: within(r, kilos), Burn: part(r, kilos, api.LoadKilos), Leak: part(r, kilos, api.LoadKilos)}
		for range r.IntN(api.LoadItems + 1) {
			leg.Items = append(leg.Items, api.LoadItem{Station: r.IntN(stations), Weight: part(r, kilos, api.LoadKilos)})
		}
		legs = append(legs, leg)
	}
	return legs
}
