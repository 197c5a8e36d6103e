package hop_test

import (
	"math"
	"reflect"
	"slices"
	"testing"

	"windsock/api"
	"windsock/hop"
)

// leastOf returns the least cost of a day.
func leastOf(t *testing.T, d api.HopDay) int {
	t.Helper()
	_, n, e := hop.Best(d)
	if e != api.OK {
		t.Fatal(d, e)
	}
	return n
}

// TestMoreWeathers checks P4.6: a weather more never makes the least cost less.
func TestMoreWeathers(t *testing.T) {
	r := newRandom()
	more := 0
	for i := range 1500 {
		d := randomDay(r, sizes{4, 2, 3, 3, 4})
		if i%2 == 0 {
			d = doubtfulDay(r)
		}
		before := leastOf(t, d)
		weather := slices.Clone(d.Weathers[r.IntN(len(d.Weathers))])
		for slot := r.IntN(len(weather)); slot < len(weather); slot++ {
			weather[slot] &= r.IntN(1 << len(d.Places))
		}
		d.Weathers = slices.Insert(slices.Clone(d.Weathers), r.IntN(len(d.Weathers)+1), weather)
		after := leastOf(t, d)
		if after < before {
			t.Fatal(i, d, before, after)
		}
		if after > before {
			more++
		}
	}
	if more < 100 {
		t.Error(more)
	}
}

// TestMoreOfAll checks P4.6: more Duty, more Seats of planes and more Berths never make the least
// cost greater.
func TestMoreOfAll(t *testing.T) {
	r := newRandom()
	var less [3]int
	for i := range 2000 {
		d := randomDay(r, sizes{4, 2, 4, 3, 3})
		if i%4 == 0 {
			d = doubtfulDay(r)
		}
		before := leastOf(t, d)
		for kind, change := range [...]func(*api.HopDay){
			func(d *api.HopDay) {
				for k := range d.Planes {
					d.Planes[k].Duty += r.IntN(3)
				}
			},
			func(d *api.HopDay) {
				for k := range d.Planes {
					d.Planes[k].Seats += r.IntN(3)
				}
			},
			func(d *api.HopDay) {
				for k, p := range d.Places {
					d.Places[k].Berths = within(r, span(p.Berths, api.HopPlanes))
				}
			},
		} {
			changed := copyOfDay(d)
			change(&changed)
			after := leastOf(t, changed)
			if after > before {
				t.Fatal(i, kind, d, changed, before, after)
			}
			if after < before {
				less[kind]++
			}
		}
	}
	if slices.Min(less[:]) < 20 {
		t.Error(less)
	}
}

// TestNobodyIsStranded checks P4.6 and P0.4: who has a greater Strand than the cost of a policy is
// where they want to be, or lodged, whatever the weather is; and in none it costs more than is told.
func TestNobodyIsStranded(t *testing.T) {
	r := newRandom()
	there, lodged := 0, 0
	for i := range 1500 {
		d := randomDay(r, sizes{4, 2, 3, 3, 4})
		policy := randomPolicy(r, d)
		if i%2 == 0 {
			policy, _, _ = hop.Best(d)
		}
		cost, _, _, e := hop.Worst(d, policy)
		if e != api.OK {
			t.Fatal(i, d, policy, e)
		}
		for w, units := range policy {
			s := startOf(d)
			for slot, unit := range units {
				behind, rule, _, e := hop.Fly(d, s, d.Weathers[w][slot], unit)
				if e != api.OK || rule != api.HopFine {
					t.Fatal(i, d, policy, w, slot, rule, e)
				}
				s = behind
			}
			if n, e := hop.Cost(d, s); e != api.OK || n > cost {
				t.Fatal(i, d, policy, w, n, e, cost)
			}
			for k, p := range d.People {
				switch place := s.People[k]; {
				case p.Strand <= cost:
				case place == p.To:
					there++
				case d.Places[place].Lodge:
					lodged++
				default:
					t.Fatal(i, d, policy, w, k, cost)
				}
			}
		}
	}
	if there < 200 || lodged < 50 {
		t.Error(there, lodged)
	}
}

// TestArgumentsAreKept checks the rule R4: no argument is changed.
func TestArgumentsAreKept(t *testing.T) {
	c, legs := exampleChain(), []int{35, 45}
	chain := copyOfChain(c)
	hop.Depart(c)
	hop.Ride(c, 490, legs)
	hop.Miss(c, 0, 521)
	if !reflect.DeepEqual(c, chain) || !slices.Equal(legs, []int{35, 45}) {
		t.Error(c, legs)
	}
	d := exampleDay()
	s, unit := startOf(d), []api.HopFlight{to(1)}
	policy := [][][]api.HopFlight{flights(to(1), stay(), to(0, 0)), flights(to(1), stay(), to(0, 0))}
	hop.Check(d)
	hop.Fly(d, s, 7, unit)
	hop.Fly(d, s, 5, unit)
	hop.Cost(d, s)
	hop.Alike(d, 0, 0)
	hop.Worst(d, policy)
	hop.Best(d)
	hop.Known(d, 1)
	if !reflect.DeepEqual(d, exampleDay()) || !sameStates(s, startOf(d)) || compareUnits(unit, []api.HopFlight{to(1)}) != 0 {
		t.Error(d, s, unit)
	}
	if out := flights(to(1), stay(), to(0, 0)); !samePolicies(policy, [][][]api.HopFlight{out, out}) {
		t.Error(policy)
	}
}

// spoil changes all that a policy is made of.
func spoil(policy [][][]api.HopFlight) {
	for _, units := range policy {
		for i, unit := range units {
			for k, f := range unit {
				clear(f.People)
				unit[k] = to(9, append(f.People, 9)...)
			}
			units[i] = append(unit, to(9))
		}
		clear(units[1:])
	}
}

// TestResultsAreApart checks the rules R4 and R8: results share no memory with arguments and with
// each other, and a call that is repeated has the same result.
func TestResultsAreApart(t *testing.T) {
	c := exampleChain()
	for range 2 {
		l, _ := hop.Depart(c)
		if want := [][]api.Span{{span(480, 520)}, {span(500, 530), span(670, 700)}}; !sameSpans(l, want) {
			t.Error(l)
		}
		for i := range l {
			l[i] = append(l[i][:1], span(1, 2))
			l[i][0] = span(0, 0)
		}
	}
	d := exampleDay()
	d.People = append(d.People, api.HopPerson{Seats: 1})
	out := flights(to(1), stay(), to(0, 0))
	for range 2 {
		l, _, _ := hop.Best(d)
		if !samePolicies(l, [][][]api.HopFlight{out, out}) {
			t.Fatal(l)
		}
		spoil(l[:1])
		if !sameUnits(l[1], out) {
			t.Fatal(l)
		}
		spoil(l[1:])
	}
	// whether a rule is broken or not
	for _, place := range []int{1, 0} {
		s := startOf(d)
		behind, _, _, _ := hop.Fly(d, s, 7, []api.HopFlight{to(place)})
		behind.Planes[0], behind.Legs[0], behind.People[0] = 9, 9, 9
		if !sameStates(s, startOf(d)) {
			t.Error(s)
		}
	}
	for range 2 {
		l, _ := hop.Alike(d, 1, 0)
		if !slices.Equal(l, []int{0, 1}) {
			t.Error(l)
		}
		clear(l)
	}
}

// TestAnyValues checks P0.1 and the rule R5: each function ends, whatever its arguments are.
func TestAnyValues(t *testing.T) {
	values := []int{math.MinInt, math.MinInt + 1, -2, -1, 0, 1, 2, 3, 7, 8, 64, 255, 1440, math.MaxInt - 1, math.MaxInt}
	r := newRandom()
	any := func() int { return values[r.IntN(len(values))] }
	spans := func() []api.Span {
		var spans []api.Span
		for range r.IntN(3) {
			spans = append(spans, span(any(), any()))
		}
		return spans
	}
	ints := func() []int {
		var ints []int
		for range r.IntN(3) {
			ints = append(ints, any())
		}
		return ints
	}
	units := func() []api.HopFlight {
		var unit []api.HopFlight
		for range r.IntN(3) {
			unit = append(unit, to(any(), ints()...))
		}
		return unit
	}
	for i := range 30000 {
		c := api.HopChain{Stops: []api.HopStop{{Windows: spans(), Turn: any()}, {Windows: spans(), Turn: any()}}, Legs: spans()}
		if i%2 == 0 {
			c = exampleChain()
		}
		d := api.HopDay{
			Places: []api.HopPlace{{Berths: any()}, {Berths: any()}},
			Links:  []api.HopLink{{One: any(), Other: any()}},
			Planes: []api.HopPlane{{At: any(), Home: any(), Seats: any(), Duty: any(), Away: any()}},
			People: []api.HopPerson{{At: any(), To: any(), Seats: any(), Strand: any(), Lodged: any()}},
		}
		for range r.IntN(3) {
			d.Weathers = append(d.Weathers, ints())
		}
		if i%4 > 0 {
			d = exampleDay()
		}
		s := api.HopState{Planes: ints(), Legs: ints(), People: ints()}
		if i%3 == 0 {
			s = startOf(exampleDay())
		}
		hop.Depart(c)
		hop.Ride(c, any(), ints())
		hop.Miss(c, any(), any())
		hop.Check(d)
		hop.Fly(d, s, any(), units())
		hop.Cost(d, s)
		hop.Alike(d, any(), any())
		hop.Worst(d, [][][]api.HopFlight{{units(), units(), units()}, {units(), units(), units()}})
		hop.Best(d)
		hop.Known(d, any())
	}
}
