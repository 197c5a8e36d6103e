package run_test

import (
	"math"
	"reflect"
	"slices"
	"testing"

	"windsock/api"
	"windsock/run"
)

// TestNeedsNeverGrow checks P3.8: wind that is known better, more water and less Clear.
func TestNeedsNeverGrow(t *testing.T) {
	r := newRandom()
	less := 0
	for i := range 500 {
		c, l, a := smallCraft(r), anyLand(r, 1+r.IntN(7), 1+r.IntN(7), 8, 60), smallAir(r)
		weight := toldWeight(r, c.Ceilings)
		before, _ := run.Needs(c, l, a, weight)
		try := func(l api.Land, a api.Air) {
			t.Helper()
			after, e := run.Needs(c, l, a, weight)
			if e != api.OK || len(after) != len(before) {
				t.Fatal(i, after, e)
			}
			for cell, need := range after {
				if need > before[cell] {
					t.Fatal(i, c, l, a, weight, cell, need, before[cell])
				}
			}
			if !slices.Equal(after, before) {
				less++
			}
		}
		try(l, api.Air{East: part(r, a.East), North: a.North})
		try(l, api.Air{East: a.East, North: part(r, a.North)})
		wet := copyOfLand(l)
		wet.Water[r.IntN(len(wet.Water))] = true
		try(wet, a)
		low := copyOfLand(l)
		low.Clear = r.IntN(low.Clear + 1)
		try(low, a)
	}
	if less < 300 {
		t.Error(less)
	}
}

// TestRunsNeverShrink checks P3.8: a greater weight.
func TestRunsNeverShrink(t *testing.T) {
	r := newRandom()
	longer := 0
	for i := range 500 {
		c := smallCraft(r)
		k, along, wave := api.RunOff+api.RunKind(r.IntN(2)), r.IntN(13)-6, r.IntN(11)
		before := 0
		for weight := range toldWeight(r, rowsFor(c, k)) + 1 {
			n, e := run.Length(c, k, weight, along, wave)
			if e != api.OK || n < before {
				t.Fatal(i, c, k, weight, along, wave, n, e, before)
			}
			if n > before && weight > 0 {
				longer++
			}
			before = n
		}
	}
	if longer < 100 {
		t.Error(longer)
	}
}

// TestArgumentsAreKept checks the rule R4: no argument is changed.
func TestArgumentsAreKept(t *testing.T) {
	for _, c := range []api.Craft{exampleCraft(), exampleTwin()} {
		m, a, leg := exampleLand(), exampleAir(), exampleLeg(500, 400, 149)
		craft, land, points := copyOfCraft(c), copyOfLand(m), slices.Clone(leg)
		run.Check(c)
		run.Map(m)
		run.Length(c, api.RunOff, 2600, 0, 10)
		run.Bounds(c, api.RunOff, span(2400, 2600), span(-20, 10), span(3, 10))
		run.Heaviest(c, api.RunOff, 600, span(-20, 10), span(3, 10))
		run.Ceiling(c, 3500)
		run.Loss(c, a, api.WaterW)
		run.Needs(c, m, a, 3000)
		run.Escape(c, m, a, 3000, 3, 490)
		run.Leg(c, m, a, leg)
		run.Way(c, m, a, 3000, 2, 0, 400)
		run.Lowest(c, m, a, 3000, 3, 0)
		run.Taxi(m, 0, 0)
		if !reflect.DeepEqual(c, craft) || !reflect.DeepEqual(m, land) || !reflect.DeepEqual(leg, points) {
			t.Error("changed")
		}
	}
}

// TestResultsAreApart checks the rules R4 and R8: results share no memory, and a call that is
// repeated has the same result.
func TestResultsAreApart(t *testing.T) {
	c, m, a := exampleCraft(), exampleLand(), exampleAir()
	for i, call := range []func() []int{
		func() []int { l, _ := run.Needs(c, m, a, 3000); return l },
		func() []int { l, _ := run.Escape(c, m, a, 3000, 3, 490); return l },
		func() []int { l, _, _ := run.Way(c, m, a, 3000, 3, 0, 490); return l },
		func() []int { l, _ := run.Taxi(m, 0, 0); return l },
	} {
		one := call()
		want := slices.Clone(one)
		clear(one)
		one = append(one, 9)
		if other := call(); len(other) == 0 || !slices.Equal(other, want) {
			t.Error(i, other, want)
		}
	}
	if !reflect.DeepEqual(m, exampleLand()) {
		t.Error(m)
	}
}

// TestAnyValues checks P0.1 and the rule R5: each function ends, whatever its arguments are.
func TestAnyValues(t *testing.T) {
	values := []int{math.MinInt, math.MinInt + 1, -api.RunWind, -1, 0, 1, 2, 5, 12, api.RunWeight, math.MaxInt - 1, math.MaxInt}
	r := newRandom()
	any := func() int { return values[r.IntN(len(values))] }
	spans := func() api.Span { return span(any(), any()) }
	rows := func() []api.RunRow {
		var rows []api.RunRow
		for range r.IntN(3) {
			rows = append(rows, api.RunRow{Weight: any(), Metres: any()})
		}
		return rows
	}
	for range 20000 {
		c := api.Craft{Off: rows(), On: rows(), Glass: any(), Rough: any(), GlassBy: any(), RoughBy: any(), Head: any(), Tail: any(), Engines: any(), Fall: any(), Drag: any(), Ceilings: rows(), Sink: any()}
		if r.IntN(2) == 0 {
			c = exampleTwin()
		}
		m := api.Land{Wide: any(), Deep: any(), Ground: []int{any(), any()}, Water: []bool{true, false}, Clear: any()}
		if r.IntN(2) == 0 {
			m = exampleLand()
		}
		a := api.Air{East: spans(), North: spans()}
		if r.IntN(2) == 0 {
			a = exampleAir()
		}
		k := api.RunKind(any())
		run.Check(c)
		run.Map(m)
		run.Length(c, k, any(), any(), any())
		run.Bounds(c, k, spans(), spans(), spans())
		run.Heaviest(c, k, any(), spans(), spans())
		run.Ceiling(c, any())
		run.Loss(c, a, api.Compass(any()))
		run.Needs(c, m, a, any())
		run.Escape(c, m, a, any(), any(), any())
		run.Leg(c, m, a, []api.Fix{{Cell: any(), Height: any(), Weight: spans()}})
		run.Way(c, m, a, any(), any(), any(), any())
		run.Lowest(c, m, a, any(), any(), any())
		run.Taxi(m, any(), any())
	}
}
