package watch_test

import (
	"slices"
	"testing"

	"windsock/api"
	"windsock/watch"
)

// TestCheck checks P5.1 (Check).
func TestCheck(t *testing.T) {
	for i, w := range append(changed(
		func(w *api.Watch) {},
		func(w *api.Watch) { w.Relays[0].Cell = 5 }, // stations can be in cells that are shut
		func(w *api.Watch) { w.Relays[1].Cell, w.Relays[1].Range = 7, 12 },
		func(w *api.Watch) { w.Relays, w.Links = slices.Repeat(w.Relays[:1], 8), nil },
		func(w *api.Watch) { w.Relays[1].Open = slices.Repeat(always(), 6) },
		func(w *api.Watch) { w.Relays[1].Open = []api.Span{span(9, 9), span(0, 0), span(1440, 1440)} },
		func(w *api.Watch) { w.Relays[1].Open = nil },
		func(w *api.Watch) { w.Links = slices.Repeat(w.Links, 20) },
		func(w *api.Watch) { w.Links[0].From, w.Links[0].To = 0, 1 },
		func(w *api.Watch) { w.Links[0].Delay = 1440 },
		func(w *api.Watch) { w.Links[0].Delay, w.Links[0].Open = 0, nil },
		func(w *api.Watch) { w.Cell = 7 },
		func(w *api.Watch) { w.Minute = 0 },
		func(w *api.Watch) { w.Minute = 1440 },
		func(w *api.Watch) { w.Every, w.Endure = 1, 1 },
		func(w *api.Watch) { w.Every, w.Endure = 1440, 1440 },
		func(w *api.Watch) { w.After = nil },
		func(w *api.Watch) { w.After = []int{0, 1, 2, 3, 4, 5, 6, 1440} },
	), api.Watch{Sky: openSky(12, 12), Net: api.Net{Relays: make([]api.Relay, 1)}, Cell: 143, Every: 1, Endure: 1}) {
		if e := watch.Check(w); e != api.OK {
			t.Error(i, w, e)
		}
	}
	for i, w := range badWatches() {
		if e := watch.Check(w); e != api.ErrArg {
			t.Error(i, w, e)
		}
	}
}

// TestReach checks P5.1 (Reach).
func TestReach(t *testing.T) {
	for i, one := range []struct {
		sky           api.Sky
		cell, minutes int
		want          []int
	}{
		{exampleSky(), 0, 0, []int{0}},
		{exampleSky(), 0, 1, []int{0, 1, 4}},
		{exampleSky(), 0, 2, []int{0, 1, 2, 4, 6}},
		{exampleSky(), 0, 3, []int{0, 1, 2, 3, 4, 6, 7}},
		{exampleSky(), 7, 1440, []int{0, 1, 2, 3, 4, 6, 7}},
		{openSky(1, 1), 0, 5, []int{0}},
		// what is shut is gone around, but only over cells
		{openSky(3, 1, 1), 0, 1440, []int{0}},
		{openSky(3, 2, 1), 0, 2, []int{0, 2, 3, 4, 5}},
		// the ends of two rows are no neighbours
		{openSky(4, 2), 3, 1, []int{2, 3, 6, 7}},
		{openSky(4, 3), 4, 1, []int{0, 1, 4, 5, 8, 9}},
		{openSky(3, 3), 4, 1, []int{0, 1, 2, 3, 4, 5, 6, 7, 8}},
	} {
		if l, e := watch.Reach(one.sky, one.cell, one.minutes); e != api.OK || !slices.Equal(l, one.want) {
			t.Error(i, l, e)
		}
	}
}

// winding returns a sky of the greatest size with one long way over it, from the cell 0 on.
func winding() api.Sky {
	s := openSky(12, 12)
	for y := 1; y < 12; y += 2 {
		for x := range 12 {
			s.Shut[y*12+x] = x != 11*(y/2%2^1)
		}
	}
	return s
}

// TestReachFar checks P5.1 (Reach): skies that are large, and ways that are long.
func TestReachFar(t *testing.T) {
	r := newRandom()
	skies := []api.Sky{winding(), openSky(12, 12), openSky(12, 1), openSky(1, 12)}
	for range 100 {
		skies = append(skies, randomSky(r, 1+r.IntN(12), 1+r.IntN(12)))
	}
	for _, s := range skies {
		from := randomFree(r, s)
		for _, minutes := range []int{0, 1, 2, 3, 5, 11, 12, 30, 60, 71, 72, 100, 143, 144, 1440} {
			if l, e := watch.Reach(s, from, minutes); e != api.OK || !slices.Equal(l, cellsWithin(s, from, minutes)) {
				t.Fatal(s, from, minutes, l, e)
			}
		}
	}
	if far := slices.Max(stepsFrom(winding(), 0)); far < 60 {
		t.Error(far)
	}
}

// TestReachErrors checks the errors of P5.1.
func TestReachErrors(t *testing.T) {
	fails := func(i int, s api.Sky, cell, minutes int) {
		t.Helper()
		if l, e := watch.Reach(s, cell, minutes); e != api.ErrArg || l != nil {
			t.Error(i, l, e)
		}
	}
	for i, s := range badSkies() {
		fails(i, s, 0, 1)
	}
	for i, cell := range []int{-1, 8, 5} {
		fails(i, exampleSky(), cell, 1)
	}
	for i, minutes := range []int{-1, 1441} {
		fails(i, exampleSky(), 0, minutes)
	}
}
