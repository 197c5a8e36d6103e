package hop_test

import (
	"math/rand/v2"
	"slices"
	"testing"

	"windsock/api"
	"windsock/hop"
)

// fineFault is the fault of a policy that keeps the rules.
var fineFault = api.HopFault{Rule: api.HopFine}

// faultOf returns the first fault of a policy, and the costs in all weathers if there is none.
func faultOf(d api.HopDay, policy [][][]api.HopFlight) ([]int, api.HopFault) {
	var costs []int
	for weather, units := range policy {
		s := startOf(d)
		for slot, unit := range units {
			for other := range weather {
				if lookAlike(d, weather, other, slot) && compareUnits(unit, policy[other][slot]) != 0 {
					return nil, api.HopFault{Weather: weather, Slot: slot, Rule: api.HopAlike}
				}
			}
			behind, rule, _ := flown(d, s, d.Weathers[weather][slot], unit)
			if rule != api.HopFine {
				return nil, api.HopFault{Weather: weather, Slot: slot, Rule: rule}
			}
			s = behind
		}
		costs = append(costs, costOf(d, s))
	}
	return costs, fineFault
}

// randomPolicy returns a policy that keeps the rules, in which planes fly wherever they can.
func randomPolicy(r *rand.Rand, d api.HopDay) [][][]api.HopFlight {
	var policy [][][]api.HopFlight
	all := allUnits(d)
	for weather, slots := range d.Weathers {
		var units [][]api.HopFlight
		s := startOf(d)
		for slot, open := range slots {
			unit := all[r.IntN(len(all))]
			for other := range weather {
				if lookAlike(d, weather, other, slot) {
					unit = policy[other][slot]
				}
			}
			behind, rule, _ := flown(d, s, open, unit)
			for rule != api.HopFine {
				unit = all[r.IntN(len(all))]
				behind, rule, _ = flown(d, s, open, unit)
			}
			s = behind
			units = append(units, unit)
		}
		policy = append(policy, units)
	}
	return policy
}

// TestAlike checks P4.3 (Alike).
func TestAlike(t *testing.T) {
	d := exampleDay()
	d.Weathers = [][]int{{7, 7, 7}, {7, 5, 7}, {5, 7, 7}, {7, 7, 5}, {7, 5, 7}, {5, 7, 7}}
	for i, one := range []struct {
		weather, slot int
		want          []int
	}{
		{0, 0, []int{0, 1, 3, 4}}, {3, 0, []int{0, 1, 3, 4}}, {2, 0, []int{2, 5}},
		{0, 1, []int{0, 3}}, {1, 1, []int{1, 4}}, {5, 1, []int{2, 5}},
		{0, 2, []int{0}}, {3, 2, []int{3}}, {4, 2, []int{1, 4}}, {2, 2, []int{2, 5}},
	} {
		if l, e := hop.Alike(d, one.weather, one.slot); e != api.OK || !slices.Equal(l, one.want) {
			t.Error(i, l, e)
		}
	}
	r := newRandom()
	for range 300 {
		d := randomDay(r, sizes{2, 1, 1, 5, 6})
		for weather := range d.Weathers {
			for slot := range d.Weathers[0] {
				var want []int
				for other := range d.Weathers {
					if lookAlike(d, weather, other, slot) {
						want = append(want, other)
					}
				}
				if l, e := hop.Alike(d, weather, slot); e != api.OK || !slices.Equal(l, want) {
					t.Fatal(d, weather, slot, l, e)
				}
			}
		}
	}
}

// TestWorst checks P4.3 (Worst).
func TestWorst(t *testing.T) {
	out := flights(to(1), stay(), to(0, 0))
	back := flights(to(1), to(0, 0), stay())
	rest := flights(stay(), stay(), stay())
	caught := flights(to(1), stay(), stay())
	fault := func(weather, slot int, rule api.HopRule) api.HopFault {
		return api.HopFault{Weather: weather, Slot: slot, Rule: rule}
	}
	for i, one := range []struct {
		policy        [][][]api.HopFlight
		cost, weather int
		fault         api.HopFault
	}{
		{[][][]api.HopFlight{out, out}, 0, 0, fineFault},
		{[][][]api.HopFlight{rest, rest}, 10, 0, fineFault},
		{[][][]api.HopFlight{back, out}, 0, 0, fineFault},
		{[][][]api.HopFlight{back, caught}, 13, 1, fineFault},
		{[][][]api.HopFlight{caught, out}, 13, 0, fineFault},
		{[][][]api.HopFlight{back, rest}, 0, 0, fault(1, 0, api.HopAlike)},
		{[][][]api.HopFlight{back, back}, 0, 0, fault(1, 1, api.HopShut)},
		// another unit is looked for before what it breaks, but in its slot alone
		{[][][]api.HopFlight{rest, flights(to(2, 0), stay(), stay())}, 0, 0, fault(1, 0, api.HopAlike)},
		{[][][]api.HopFlight{rest, flights(stay(), to(1), stay())}, 0, 0, fault(1, 1, api.HopShut)},
		{[][][]api.HopFlight{flights(stay(), stay(), to(0)), rest}, 0, 0, fault(0, 2, api.HopLinked)},
		{[][][]api.HopFlight{flights(to(1, 0), stay(), to(0)), rest}, 0, 0, fault(0, 0, api.HopHere)},
		// the weathers come in their order
		{[][][]api.HopFlight{flights(stay(), stay(), to(0)), back}, 0, 0, fault(0, 2, api.HopLinked)},
	} {
		if n, w, f, e := hop.Worst(exampleDay(), one.policy); e != api.OK || n != one.cost || w != one.weather || f != one.fault {
			t.Error(i, n, w, f, e)
		}
	}
	// a person fewer aboard is another unit
	d := exampleDay()
	d.Planes[0].At, d.Weathers = 1, slices.Repeat([][]int{{7}}, 3)
	with, without := flights(to(0, 0)), flights(to(0))
	if _, _, f, e := hop.Worst(d, [][][]api.HopFlight{with, with, without}); e != api.OK || f != fault(2, 0, api.HopAlike) {
		t.Error(f, e)
	}
}

// TestWorstRules checks P4.3 (Worst) for the rules that need two planes, or few legs and seats.
func TestWorstRules(t *testing.T) {
	d := twoPlanes()
	d.People[0].At, d.Weathers = 0, [][]int{{7, 7}}
	for i, one := range []struct {
		first, second []api.HopFlight
		slot          int
		rule          api.HopRule
	}{
		{[]api.HopFlight{to(1), to(1)}, []api.HopFlight{stay(), stay()}, 0, api.HopBerth},
		{[]api.HopFlight{stay(), to(1)}, []api.HopFlight{stay(), to(0)}, 1, api.HopTired},
		{[]api.HopFlight{stay(), to(1, 0)}, []api.HopFlight{stay(), stay()}, 0, api.HopSeated},
		{[]api.HopFlight{stay(), stay()}, []api.HopFlight{to(1, 0), to(2, 0)}, 1, api.HopHere},
		{[]api.HopFlight{to(1), stay()}, []api.HopFlight{to(0), to(1)}, 0, api.HopFine},
	} {
		_, w, f, e := hop.Worst(d, [][][]api.HopFlight{{one.first, one.second}})
		if e != api.OK || w != 0 || f != (api.HopFault{Slot: one.slot, Rule: one.rule}) {
			t.Error(i, w, f, e)
		}
	}
}

// TestWorstSmall checks P4.3 (Worst): policies that keep the rules, and those that differ from
// them in a unit.
func TestWorstSmall(t *testing.T) {
	r := newRandom()
	found := map[api.HopRule]int{}
	later := 0
	for i := range 8000 {
		d := randomDay(r, sizes{3, 2, 2, 4, 4})
		policy := randomPolicy(r, d)
		if i%2 == 0 {
			all, units := allUnits(d), policy[r.IntN(len(policy))]
			units[r.IntN(len(units))] = all[r.IntN(len(all))]
		}
		costs, fault := faultOf(d, policy)
		cost, worst := 0, 0
		if fault == fineFault {
			cost = slices.Max(costs)
			worst = slices.Index(costs, cost)
		}
		n, w, f, e := hop.Worst(d, policy)
		if e != api.OK || n != cost || w != worst || f != fault {
			t.Fatal(i, d, policy, n, w, f, e, costs, fault)
		}
		found[fault.Rule]++
		if worst > 0 {
			later++
		}
	}
	for rule := api.HopFine; rule <= api.HopAlike; rule++ {
		if found[rule] < 10 {
			t.Error(rule, found[rule])
		}
	}
	if later < 100 {
		t.Error(later)
	}
}

// TestPolicyErrors checks the errors of P4.3.
func TestPolicyErrors(t *testing.T) {
	alike := func(i int, d api.HopDay, weather, slot int) {
		t.Helper()
		if l, e := hop.Alike(d, weather, slot); e != api.ErrArg || l != nil {
			t.Error(i, l, e)
		}
	}
	worst := func(i int, d api.HopDay, policy ...[][]api.HopFlight) {
		t.Helper()
		if n, w, f, e := hop.Worst(d, policy); e != api.ErrArg || n != 0 || w != 0 || f != (api.HopFault{}) {
			t.Error(i, n, w, f, e)
		}
	}
	two := []api.HopFlight{stay(), stay()}
	rest := [][]api.HopFlight{two, two, two}
	for i, bad := range badDays() {
		alike(i, bad, 0, 0)
		worst(i, bad, rest, rest)
	}
	d := twoPlanes()
	for i, x := range []int{-1, 3} {
		alike(i, d, x, 0)
		alike(i, d, 0, x)
	}
	alike(0, d, 2, 0)
	worst(0, d)
	worst(1, d, rest)
	worst(2, d, rest, rest, rest)
	worst(3, d, rest, rest[:2])
	worst(4, d, nil, rest)
	worst(5, d, rest, append(slices.Clone(rest), two))
	for i, bad := range badUnits() {
		worst(i, d, rest, [][]api.HopFlight{two, two, bad})
		worst(i, d, [][]api.HopFlight{bad, two, two}, rest)
		// even behind a fault
		worst(i, d, [][]api.HopFlight{{to(0), stay()}, two, two}, [][]api.HopFlight{two, bad, two})
	}
}
