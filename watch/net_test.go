package watch_test

import (
	"math/rand/v2"
	"slices"
	"testing"

	"windsock/api"
	"windsock/watch"
)

// link returns a link that is open in a span.
func link(from, to, delay int, open api.Span) api.Link {
	return api.Link{From: from, To: to, Delay: delay, Open: []api.Span{open}}
}

// relayed returns a watch over one row of cells, with so many stations, each of which hears its
// own cell alone, and some links.
func relayed(stations int, links ...api.Link) api.Watch {
	w := exampleWatch()
	w.Sky, w.Net = openSky(stations, 1), api.Net{Links: links}
	for cell := range stations {
		w.Relays = append(w.Relays, api.Relay{Cell: cell, Open: always()})
	}
	return w
}

// TestArrive checks P5.2.
func TestArrive(t *testing.T) {
	day := span(0, 1440)
	near := relayed(3, link(1, 0, 5, day), link(2, 0, 5, day))
	near.Relays[1].Range, near.Relays[2].Range = 1, 1
	shut := exampleWatch()
	shut.Relays[1].Open = []api.Span{span(40, 50), span(10, 20)}
	for i, one := range []struct {
		watch        api.Watch
		cell, minute int
		want         int
		route        []int
	}{
		{exampleWatch(), 3, 15, 22, []int{1, 0}},
		{exampleWatch(), 2, 31, 102, []int{1, 0}},
		{exampleWatch(), 0, 15, 15, []int{0}},
		{exampleWatch(), 7, 20, 22, []int{1, 0}},
		{exampleWatch(), 7, 30, 32, []int{1, 0}},
		{exampleWatch(), 7, 110, 112, []int{1, 0}},
		// the flight's own minute does not matter
		{exampleWatch(), 0, 0, 0, []int{0}},
		{exampleWatch(), 0, 1440, 1440, []int{0}},
		// a station hears in some minutes
		{shut, 3, 10, 22, []int{1, 0}},
		{shut, 3, 20, 22, []int{1, 0}},
		{shut, 3, 40, 102, []int{1, 0}},
		{shut, 3, 50, 102, []int{1, 0}},
		// the first of equal ones
		{near, 2, 9, 14, []int{1, 0}},
		{near, 1, 9, 14, []int{1, 0}},
		{near, 0, 9, 9, []int{0}},
		// of several links the one with which it arrives first, which may be open later
		{relayed(2, link(1, 0, 9, day), link(1, 0, 2, span(14, 20))), 1, 10, 16, []int{1, 0}},
		{relayed(2, link(1, 0, 9, day), link(1, 0, 2, span(18, 20))), 1, 10, 19, []int{1, 0}},
		// earlier by more stations
		{relayed(3, link(1, 0, 9, day), link(1, 2, 3, day), link(2, 0, 5, day)), 1, 10, 18, []int{1, 2, 0}},
		// not earlier by more stations
		{relayed(3, link(1, 0, 9, day), link(1, 2, 3, day), link(2, 0, 6, day)), 1, 10, 19, []int{1, 0}},
		// a line that is not open yet makes no difference to who was there earlier
		{relayed(4, link(1, 3, 7, day), link(1, 2, 1, day), link(2, 3, 1, day), link(3, 0, 0, span(30, 40))), 1, 10, 30, []int{1, 3, 0}},
		{relayed(4, link(1, 3, 7, day), link(1, 2, 1, day), link(2, 3, 1, day), link(3, 0, 0, span(17, 40))), 1, 10, 17, []int{1, 3, 0}},
		{relayed(4, link(1, 3, 7, day), link(1, 2, 1, day), link(2, 3, 1, day), link(3, 0, 0, span(16, 40))), 1, 10, 16, []int{1, 2, 3, 0}},
		// the first in lexicographic order, though the other one is further earlier
		{relayed(4, link(1, 2, 5, day), link(1, 3, 0, day), link(2, 0, 0, span(30, 40)), link(3, 0, 0, span(30, 40))), 1, 10, 30, []int{1, 2, 0}},
		// round in a ring, and through a desk from which there are links
		{relayed(4, link(1, 2, 1, day), link(2, 1, 1, day), link(2, 3, 1, day), link(3, 2, 0, day), link(3, 0, 1, day)), 1, 10, 13, []int{1, 2, 3, 0}},
		{relayed(3, link(1, 0, 1, day), link(0, 2, 0, day), link(2, 0, 0, day)), 1, 10, 11, []int{1, 0}},
		// at the end of the day
		{relayed(2, link(1, 0, 5, day)), 1, 1435, 1440, []int{1, 0}},
		{relayed(2, link(1, 0, 0, span(1440, 1440))), 1, 0, 1440, []int{1, 0}},
	} {
		if n, route, e := watch.Arrive(one.watch, one.cell, one.minute); e != api.OK || n != one.want || !slices.Equal(route, one.route) {
			t.Error(i, n, route, e)
		}
	}
}

// TestArriveNever checks P5.2: what does not arrive.
func TestArriveNever(t *testing.T) {
	day := span(0, 1440)
	shut := exampleWatch()
	shut.Relays[1].Open = []api.Span{span(40, 50), span(10, 20)}
	for i, one := range []struct {
		watch        api.Watch
		cell, minute int
	}{
		{exampleWatch(), 1, 15}, {exampleWatch(), 4, 15}, {exampleWatch(), 3, 111}, {exampleWatch(), 6, 1440},
		{shut, 3, 9}, {shut, 3, 21}, {shut, 3, 39}, {shut, 3, 51}, {deafWatch(), 0, 15},
		{relayed(2, link(1, 0, 5, day)), 1, 1436},
		{relayed(2, link(1, 0, 1, span(1440, 1440))), 1, 0},
		{relayed(2, link(0, 1, 1, day)), 1, 0},
		// each station has to have it by the end of the day
		{relayed(3, link(1, 2, 1440, day), link(2, 0, 0, day)), 1, 1},
		{relayed(2), 1, 10},
	} {
		if n, route, e := watch.Arrive(one.watch, one.cell, one.minute); e != api.ErrNone || n != 0 || route != nil {
			t.Error(i, n, route, e)
		}
	}
}

// TestArriveSmall checks P5.2: no list of stations, of which some can be in it more than once, is a
// better route.
func TestArriveSmall(t *testing.T) {
	r := newRandom()
	most := sizes{3, 3, 4, 9, 12}
	lengths := map[int]int{}
	later := 0
	for i := range 8000 {
		w := randomWatch(r, most)
		lists := listsOf(w.Net, 5)
		for range 4 {
			cell, minute := randomFree(r, w.Sky), within(r, span(max(0, w.Minute-2), end(w, most)))
			want, best := routeOf(w, cell, minute, lists)
			n, route, e := watch.Arrive(w, cell, minute)
			if want < 0 {
				if e != api.ErrNone || n != 0 || route != nil {
					t.Fatal(i, w, cell, minute, n, route, e)
				}
				continue
			}
			if e != api.OK || n != want || !slices.Equal(route, best) {
				t.Fatal(i, w, cell, minute, n, route, e, want, best)
			}
			lengths[len(route)]++
			if n > minute {
				later++
			}
		}
	}
	if lengths[1] < 100 || lengths[2] < 100 || lengths[3] < 100 || lengths[4] < 20 || later < 100 {
		t.Error(lengths, later)
	}
}

// wideNet returns a net of as many stations and links as there can be. The lines to the desk take
// longest, so that others are used.
func wideNet(r *rand.Rand, cells, from int) api.Net {
	var n api.Net
	for range api.WatchRelays {
		n.Relays = append(n.Relays, api.Relay{Cell: r.IntN(cells), Range: r.IntN(2), Open: always()})
	}
	for range api.WatchLinks {
		stations := r.Perm(api.WatchRelays)
		l := api.Link{From: stations[0], To: stations[1], Delay: r.IntN(6)}
		if l.To == 0 {
			l.Delay += r.IntN(20)
		}
		for range 1 + r.IntN(2) {
			l.Open = append(l.Open, part(r, span(from, min(api.WatchDay, from+30))))
		}
		n.Links = append(n.Links, l)
	}
	return n
}

// TestArriveMany checks P5.2 for nets that are as great as can be: no route without a station
// twice is better.
func TestArriveMany(t *testing.T) {
	r := newRandom()
	long := 0
	for i := range 600 {
		w := randomWatch(r, sizes{4, 4, 1, 0, 12})
		w.Net = wideNet(r, len(w.Shut), w.Minute)
		routes := simpleRoutes(w.Net)
		for range 5 {
			cell, minute := randomFree(r, w.Sky), w.Minute
			want, best := routeOf(w, cell, minute, routes)
			n, route, e := watch.Arrive(w, cell, minute)
			if want < 0 {
				if e != api.ErrNone {
					t.Fatal(i, w, cell, minute, n, route, e)
				}
				continue
			}
			if e != api.OK || n != want || !slices.Equal(route, best) {
				t.Fatal(i, w, cell, minute, n, route, e, want, best)
			}
			if len(route) > 3 {
				long++
			}
		}
	}
	if long < 50 {
		t.Error(long)
	}
}

// simpleRoutes returns all lists of stations along links that have no station twice and end with
// the desk, the shortest ones first, then in lexicographic order.
func simpleRoutes(n api.Net) [][]int {
	var all, longest [][]int
	for station := range n.Relays {
		longest = append(longest, []int{station})
	}
	for len(longest) > 0 {
		var next [][]int
		for _, list := range longest {
			last := list[len(list)-1]
			if last == 0 {
				all = append(all, list)
				continue
			}
			for to := range n.Relays {
				joined := slices.ContainsFunc(n.Links, func(l api.Link) bool { return l.From == last && l.To == to })
				if joined && !slices.Contains(list, to) {
					next = append(next, append(slices.Clone(list), to))
				}
			}
		}
		longest = next
	}
	return all
}

// TestArriveErrors checks the errors of P5.2.
func TestArriveErrors(t *testing.T) {
	fails := func(i int, w api.Watch, cell, minute int) {
		t.Helper()
		if n, route, e := watch.Arrive(w, cell, minute); e != api.ErrArg || n != 0 || route != nil {
			t.Error(i, n, route, e)
		}
	}
	for i, w := range badWatches() {
		fails(i, w, 0, 15)
	}
	for i, cell := range []int{-1, 8, 5} {
		fails(i, exampleWatch(), cell, 15)
	}
	for i, minute := range []int{-1, 1441} {
		fails(i, exampleWatch(), 0, minute)
	}
}
