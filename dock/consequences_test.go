package dock_test

import (
	"reflect"
	"slices"
	"testing"

	"windsock/api"
	"windsock/dock"
)

// TestMoreRopesHold checks P6.8: a rope more, a stronger one, and a wind that is known better never
// make ropes fail that held.
func TestMoreRopesHold(t *testing.T) {
	r := newRandom()
	held, holdNow := 0, 0
	for i := range 20000 {
		ropes, w := randomMooring(r, 6)
		if i%4 == 0 {
			ropes, w = randomGreatMooring(r)
			ropes = ropes[:6]
		}
		before, _, _ := dock.Hold(ropes, w)
		more, better := slices.Clone(ropes), w
		switch i % 3 {
		case 0:
			more = slices.Insert(more, r.IntN(len(ropes)+1), randomRope(r, 100, 1000000))
		case 1:
			if len(ropes) > 0 {
				one := &more[r.IntN(len(ropes))]
				one.Strength = within(r, span(one.Strength, api.DockStrength))
			}
		case 2:
			better = windOf(part(r, w.X), part(r, w.Y))
		}
		after, b, e := dock.Hold(more, better)
		if e != api.OK || before && !after {
			t.Fatal(i, ropes, w, more, better, b, e)
		}
		if before {
			held++
		} else if after {
			holdNow++
		}
	}
	if held < 3000 || holdNow < 1000 {
		t.Error(held, holdNow)
	}
}

// TestSparesAreNeeded checks P6.3: a rope less than the fewest, or without the first that must not be
// missing, and the wind is not held.
func TestSparesAreNeeded(t *testing.T) {
	r := newRandom()
	needed := 0
	for i := range 5000 {
		ropes, w := randomMooring(r, 8)
		set, e := dock.Fewest(ropes, w)
		if e != api.OK {
			continue
		}
		if is, _, e := dock.Hold(chosen(ropes, set), w); e != api.OK || !is {
			t.Fatal(i, ropes, w, set)
		}
		for j := range set {
			if is, _, e := dock.Hold(chosen(ropes, slices.Delete(slices.Clone(set), j, j+1)), w); e != api.OK || is {
				t.Fatal(i, ropes, w, set, j)
			}
			needed++
		}
		rope, e := dock.Spare(ropes, w)
		if e != api.OK || rope >= 0 && !slices.Contains(set, rope) {
			t.Fatal(i, ropes, w, set, rope, e)
		}
	}
	if needed < 1000 {
		t.Error(needed)
	}
}

// TestMoreBerths checks P6.8: a berth more never makes berths impossible. And it checks P6.1: there
// are berths, or a minute with too many planes, and never both.
func TestMoreBerths(t *testing.T) {
	r := newRandom()
	changed := 0
	for i := range 3000 {
		stays := randomStays(r, r.IntN(api.DockStays+1), 5+r.IntN(200))
		if i%2 == 0 {
			stays = busyStays(r, 1+r.IntN(api.DockBerths))
		}
		last := api.ErrNone
		for berths := range api.DockBerths + 1 {
			l, e := dock.Berth(stays, berths)
			if last == api.OK && e != api.OK || e == api.OK && len(l) != len(stays) {
				t.Fatal(i, stays, berths, l, e)
			}
			_, crowd, e2 := dock.Crowd(stays, berths)
			if (e == api.OK) != (e2 == api.ErrState) || (e == api.ErrNone) != (e2 == api.OK && len(crowd) > berths) {
				t.Fatal(i, stays, berths, l, e, crowd, e2)
			}
			if e != last {
				changed++
			}
			last = e
		}
	}
	if changed < 1000 {
		t.Error(changed)
	}
}

// TestDocksAreKept checks P0.6: never two at one place, ropes that hold, and as many jackets as people.
func TestDocksAreKept(t *testing.T) {
	r := newRandom()
	for i := range 200 {
		stays := randomStays(r, 5, 100)
		if numbers, e := dock.Berth(stays, 4); e == api.OK && !areBerths(stays, 4, numbers) {
			t.Fatal(i, stays, numbers)
		}
		calls := randomCalls(r, 3, 6, 50, 1)
		if order, e := dock.Linear(3, calls); e == api.OK && !isTrue(calls, order) {
			t.Fatal(i, calls, order)
		}
		programs := randomPrograms(r, 3, 4, 6)
		checkRun(t, 3, programs, randomSchedule(r, programs))
		ropes, w := randomGreatMooring(r)
		checkHold(t, r, ropes, w)
		docks := []int{r.IntN(9), r.IntN(9)}
		_, aboard, _, e := dock.Count(docks, 3, randomEvents(r, docks, 3, 20))
		if e != api.OK || slices.ContainsFunc(aboard, func(b api.DockBoard) bool { return b.People != b.Jackets }) {
			t.Fatal(i, aboard, e)
		}
	}
}

// TestArgumentsAreKept checks the rule R4: no argument is changed.
func TestArgumentsAreKept(t *testing.T) {
	stays, ropes, calls, events := exampleStays(), exampleRopes(), exampleCalls(), exampleEvents()
	programs, order, schedule, docks := examplePrograms(), []int{1, 0, 2}, []int{0, 0, 1}, []int{10, 5}
	dock.Berth(stays, 3)
	dock.Crowd(stays, 2)
	dock.Hold(ropes, exampleWind())
	dock.Spare(ropes[:3], windOf(span(0, 400), span(-300, 0)))
	dock.Fewest(ropes, exampleWind())
	dock.Linear(1, calls)
	dock.Explains(1, calls, order)
	dock.Run(2, programs, schedule)
	dock.Stuck(2, programs)
	dock.Count(docks, 1, events)
	if !slices.Equal(stays, exampleStays()) || !slices.Equal(ropes, exampleRopes()) || !slices.Equal(calls, exampleCalls()) ||
		!slices.Equal(events, exampleEvents()) || !reflect.DeepEqual(programs, examplePrograms()) ||
		!slices.Equal(order, []int{1, 0, 2}) || !slices.Equal(schedule, []int{0, 0, 1}) || !slices.Equal(docks, []int{10, 5}) {
		t.Error(stays, ropes, calls, events, programs, order, schedule, docks)
	}
}

// TestResultsAreApart checks the rules R4 and R8: results share no memory, and a call that is
// repeated has the same result.
func TestResultsAreApart(t *testing.T) {
	docks := []int{10, 5}
	for i, call := range []func() []int{
		func() []int { l, _ := dock.Berth(exampleStays(), 3); return l },
		func() []int { _, l, _ := dock.Crowd(exampleStays(), 2); return l },
		func() []int { l, _ := dock.Fewest(exampleRopes(), exampleWind()); return l },
		func() []int { l, _ := dock.Linear(1, exampleCalls()); return l },
		func() []int { l, _, _, _ := dock.Run(2, examplePrograms(), nil); return l },
		func() []int { _, l, _, _ := dock.Run(2, examplePrograms(), nil); return l },
		func() []int { l, _, _ := dock.Stuck(2, examplePrograms()); return l },
		func() []int { _, l, _ := dock.Stuck(2, examplePrograms()); return l },
		func() []int { _, _, l, _ := dock.Count(docks, 1, nil); return l },
	} {
		one := call()
		want := slices.Clone(one)
		for j := range one[:cap(one)] {
			one[:cap(one)][j] = -7
		}
		if other := call(); len(other) == 0 || !slices.Equal(other, want) {
			t.Error(i, other, want)
		}
	}
	schedule, chain, _ := dock.Stuck(2, examplePrograms())
	clear(schedule[:cap(schedule)])
	has, done, _, _ := dock.Run(2, examplePrograms(), []int{0, 0})
	clear(has[:cap(has)])
	_, aboard, _, _ := dock.Count(docks, 1, exampleEvents())
	clear(aboard)
	_, again, _, _ := dock.Count(docks, 1, exampleEvents())
	if !slices.Equal(chain, []int{0, 1, 0}) || !slices.Equal(done, []int{2, 0}) || again[0] != board(3, 3) || !slices.Equal(docks, []int{10, 5}) {
		t.Error(chain, done, again, docks)
	}
}

// TestNilAndEmpty checks the rule R3.
func TestNilAndEmpty(t *testing.T) {
	if l, e := dock.Berth([]api.DockStay{}, 0); e != api.OK || len(l) != 0 {
		t.Error(l, e)
	}
	if _, l, e := dock.Crowd([]api.DockStay{}, 0); e != api.ErrState || len(l) != 0 {
		t.Error(l, e)
	}
	if is, b, e := dock.Hold([]api.DockRope{}, force(0, 2)); e != api.OK || is || b != (api.DockBreak{ForceY: 2, Y: -1}) {
		t.Error(is, b, e)
	}
	if rope, e := dock.Spare([]api.DockRope{}, force(0, 0)); e != api.OK || rope != -1 {
		t.Error(rope, e)
	}
	if l, e := dock.Fewest([]api.DockRope{}, force(0, 0)); e != api.OK || len(l) != 0 {
		t.Error(l, e)
	}
	if l, e := dock.Linear(1, []api.DockCall{}); e != api.OK || len(l) != 0 {
		t.Error(l, e)
	}
	if is, e := dock.Explains(1, []api.DockCall{}, []int{}); e != api.OK || !is {
		t.Error(is, e)
	}
	if has, done, at, e := dock.Run(1, [][]api.DockStep{{}}, []int{}); e != api.OK || at != -1 || !slices.Equal(has, []int{-1}) || !slices.Equal(done, []int{0}) {
		t.Error(has, done, at, e)
	}
	if l, chain, e := dock.Stuck(1, [][]api.DockStep{{}, nil}); e != api.ErrNone || len(l)+len(chain) != 0 {
		t.Error(l, chain, e)
	}
	if l, chain, e := dock.Stuck(1, [][]api.DockStep{}); e != api.ErrArg || len(l)+len(chain) != 0 {
		t.Error(l, chain, e)
	}
	if wrong, aboard, docks, e := dock.Count([]int{0}, 0, []api.DockCount{}); e != api.OK || wrong != -1 || len(aboard) != 0 || !slices.Equal(docks, []int{0}) {
		t.Error(wrong, aboard, docks, e)
	}
}

// TestAnyValues checks P0.1 and the rule R5: each function ends, whatever its arguments are.
func TestAnyValues(t *testing.T) {
	r := newRandom()
	any := func(limit int) int {
		if r.IntN(4) > 0 {
			return r.IntN(limit + 1)
		}
		return anyNumber(r, limit)
	}
	spans := func(limit int) api.Span { return span(any(limit), any(limit)) }
	for range 30000 {
		stays := append(randomStays(r, r.IntN(12), 300), api.DockStay{Come: spans(1440), Go: spans(1440)})
		dock.Berth(stays, any(6))
		dock.Crowd(stays, any(6))
		ropes, w := randomMooring(r, 4)
		ropes = append(ropes, api.DockRope{X: any(100), Y: any(100), Strength: any(1000000)})
		if r.IntN(2) == 0 {
			w = windOf(spans(1000000), spans(1000000))
		}
		dock.Hold(ropes, w)
		dock.Spare(ropes, w)
		dock.Fewest(ropes, w)
		calls := append(exampleCalls()[:r.IntN(4)], api.DockCall{Who: any(3), Kind: api.DockKind(any(4)), Thing: any(3), Other: any(3), Begin: any(1000), End: any(1000), Result: any(3)})
		dock.Linear(any(4), calls)
		dock.Explains(any(4), calls, []int{any(3), any(3), any(3), any(3)}[:r.IntN(5)])
		programs := append(randomPrograms(r, 4, r.IntN(5), 6), []api.DockStep{{Kind: api.DockKind(any(2)), Thing: any(3)}})
		dock.Run(any(4), programs, []int{any(4), any(4), any(4)})
		dock.Stuck(any(4), programs)
		dock.Count([]int{any(9), any(9)}, any(6), []api.DockCount{{Dock: any(2), Plane: any(6), People: any(100000), Jackets: any(100000)}})
	}
}
