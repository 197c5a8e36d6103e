package dock_test

import (
	"math/rand/v2"
	"slices"
	"testing"

	"windsock/api"
	"windsock/dock"
)

func board(people, jackets int) api.DockBoard {
	return api.DockBoard{People: people, Jackets: jackets}
}

// event returns an event at a dock with as many jackets as people.
func event(at, plane, people int) api.DockCount {
	return api.DockCount{Dock: at, Plane: plane, People: people, Jackets: people}
}

// exampleEvents are the events of the chapter.
func exampleEvents() []api.DockCount {
	return []api.DockCount{event(0, 0, 3), {Dock: 1, People: -2, Jackets: -1}}
}

// sums returns how many people and jackets are aboard a plane behind events.
func sums(plane int, events []api.DockCount) api.DockBoard {
	var b api.DockBoard
	for _, c := range events {
		if c.Plane == plane {
			b.People += c.People
			b.Jackets += c.Jackets
		}
	}
	return b
}

// left returns how many jackets a dock has behind events.
func left(at, jackets int, events []api.DockCount) int {
	for _, c := range events {
		if c.Dock == at {
			jackets -= c.Jackets
		}
	}
	return jackets
}

// wrongOf returns the index of the first event that is wrong, -1 if none is.
func wrongOf(docks []int, events []api.DockCount) int {
	for i, c := range events {
		b := sums(c.Plane, events[:i+1])
		if b.People < 0 || b.Jackets < 0 || b.People != b.Jackets || left(c.Dock, docks[c.Dock], events[:i+1]) < 0 {
			return i
		}
	}
	return -1
}

// TestCountExamples checks P6.7.
func TestCountExamples(t *testing.T) {
	right := exampleEvents()
	right[1].Jackets = -2
	for i, one := range []struct {
		docks  []int
		planes int
		events []api.DockCount
		wrong  int
		aboard []api.DockBoard
		left   []int
	}{
		{[]int{10, 5}, 1, exampleEvents(), 1, []api.DockBoard{board(3, 3)}, []int{7, 5}},
		{[]int{10, 5}, 1, right, -1, []api.DockBoard{board(1, 1)}, []int{7, 7}},
		{[]int{10, 5}, 2, nil, -1, make([]api.DockBoard, 2), []int{10, 5}},
		{[]int{10}, 0, nil, -1, nil, []int{10}},
		{[]int{0, 0, 0, 0, 0, 0}, 6, []api.DockCount{event(5, 5, 0)}, -1, make([]api.DockBoard, 6), []int{0, 0, 0, 0, 0, 0}},
		// fewer than nobody, and fewer jackets than none at the dock
		{[]int{10}, 1, []api.DockCount{event(0, 0, -1)}, 0, []api.DockBoard{board(0, 0)}, []int{10}},
		{[]int{10}, 1, []api.DockCount{event(0, 0, 11)}, 0, []api.DockBoard{board(0, 0)}, []int{10}},
		{[]int{10}, 1, []api.DockCount{event(0, 0, 10)}, -1, []api.DockBoard{board(10, 10)}, []int{0}},
		{[]int{10}, 1, []api.DockCount{event(0, 0, 4), event(0, 0, -4)}, -1, []api.DockBoard{board(0, 0)}, []int{10}},
		{[]int{10}, 1, []api.DockCount{event(0, 0, 4), event(0, 0, -5)}, 1, []api.DockBoard{board(4, 4)}, []int{6}},
		// too few jackets aboard, and too many
		{[]int{10}, 1, []api.DockCount{{People: 2, Jackets: 1}}, 0, []api.DockBoard{board(0, 0)}, []int{10}},
		{[]int{10}, 1, []api.DockCount{{People: 1, Jackets: 2}}, 0, []api.DockBoard{board(0, 0)}, []int{10}},
		{[]int{10}, 1, []api.DockCount{{People: 1}}, 0, []api.DockBoard{board(0, 0)}, []int{10}},
		{[]int{10}, 1, []api.DockCount{{Jackets: 1}}, 0, []api.DockBoard{board(0, 0)}, []int{10}},
		{[]int{10}, 1, []api.DockCount{event(0, 0, 3), {People: -3}}, 1, []api.DockBoard{board(3, 3)}, []int{7}},
		{[]int{10}, 1, []api.DockCount{event(0, 0, 3), {Jackets: -3}}, 1, []api.DockBoard{board(3, 3)}, []int{7}},
		// it is each plane that counts, and each dock; nothing is done behind what is wrong
		{[]int{3, 3}, 2, []api.DockCount{event(0, 0, 3), event(1, 1, -1), event(1, 1, 3)}, 1, []api.DockBoard{board(3, 3), board(0, 0)}, []int{0, 3}},
		{[]int{3, 3}, 2, []api.DockCount{event(0, 0, 3), event(0, 1, 1)}, 1, []api.DockBoard{board(3, 3), board(0, 0)}, []int{0, 3}},
		{[]int{3, 3}, 2, []api.DockCount{event(0, 0, 3), event(1, 1, 2), event(1, 0, -3), event(0, 1, -2)}, -1, make([]api.DockBoard, 2), []int{2, 4}},
		// a dock can come to have more jackets than it can have at first
		{[]int{100000, 100000}, 1, []api.DockCount{event(0, 0, 100000), event(1, 0, -100000)}, -1, []api.DockBoard{board(0, 0)}, []int{0, 200000}},
	} {
		wrong, aboard, jackets, e := dock.Count(one.docks, one.planes, one.events)
		if e != api.OK || wrong != one.wrong || !slices.Equal(aboard, one.aboard) || !slices.Equal(jackets, one.left) {
			t.Error(i, wrong, aboard, jackets, e)
		}
	}
}

// randomEvents returns events of which most are right.
func randomEvents(r *rand.Rand, docks []int, planes, count int) []api.DockCount {
	var events []api.DockCount
	for range count {
		c := event(r.IntN(len(docks)), r.IntN(planes), 0)
		aboard := max(0, sums(c.Plane, events).People)
		c.People = within(r, span(-aboard, max(0, left(c.Dock, docks[c.Dock], events))))
		c.Jackets = c.People
		switch r.IntN(100) {
		case 0:
			c.Jackets += 1 - 2*r.IntN(2)
		case 1:
			c.People += 1 - 2*r.IntN(2)
		case 2:
			c = event(c.Dock, c.Plane, -aboard-1)
		}
		events = append(events, c)
	}
	return events
}

// TestEvents compares Count with sums, and checks that no jacket is lost or made (P6.7).
func TestEvents(t *testing.T) {
	r := newRandom()
	at := map[bool]int{}
	for i := range 3000 {
		var docks []int
		all := 0
		for range 1 + r.IntN(api.DockDocks) {
			docks = append(docks, r.IntN(20))
			all += docks[len(docks)-1]
		}
		planes := 1 + r.IntN(api.DockPlanes)
		events := randomEvents(r, docks, planes, r.IntN(api.DockEvents+1))
		wrong, aboard, jackets, e := dock.Count(docks, planes, events)
		want := wrongOf(docks, events)
		if e != api.OK || wrong != want || len(aboard) != planes || len(jackets) != len(docks) {
			t.Fatal(i, docks, events, wrong, aboard, jackets, e)
		}
		done := events
		if want >= 0 {
			done = events[:want]
		}
		for plane, b := range aboard {
			all -= b.Jackets
			if b != sums(plane, done) || b.People != b.Jackets || b.People < 0 {
				t.Fatal(i, docks, events, wrong, aboard, jackets)
			}
		}
		for index, count := range jackets {
			all -= count
			if count != left(index, docks[index], done) || count < 0 {
				t.Fatal(i, docks, events, wrong, aboard, jackets)
			}
		}
		if all != 0 {
			t.Fatal(i, docks, events, wrong, aboard, jackets, all)
		}
		at[want >= 0]++
	}
	if at[true] < 500 || at[false] < 500 {
		t.Error(at)
	}
}

// TestCountErrors checks the errors of P6.7.
func TestCountErrors(t *testing.T) {
	fails := func(i int, docks []int, planes int, events []api.DockCount, want api.Errno) {
		t.Helper()
		if wrong, aboard, jackets, e := dock.Count(docks, planes, events); e != want || wrong != -1 || aboard != nil || jackets != nil {
			t.Error(i, wrong, aboard, jackets, e)
		}
	}
	long := make([]api.DockCount, 101)
	for i, docks := range [][]int{nil, {-1}, {100001}, {5, -1 << 63}, {1<<63 - 1, 5}, make([]int, 7)} {
		fails(i, docks, 1, nil, api.ErrArg)
		fails(i, docks, 1, exampleEvents(), api.ErrArg)
		fails(i, docks, 1, long, api.ErrLong)
	}
	for i, planes := range []int{-1, 7, 1<<63 - 1, -1 << 63} {
		fails(i, []int{10, 5}, planes, nil, api.ErrArg)
		fails(i, []int{10, 5}, planes, exampleEvents(), api.ErrArg)
		fails(i, []int{10, 5}, planes, long, api.ErrLong)
	}
	for i, bad := range []api.DockCount{
		event(-1, 0, 0), event(2, 0, 0), event(0, -1, 0), event(0, 1, 0), event(0, 0, 100001), event(0, 0, -100001),
		{People: 100001}, {People: -100001}, {Jackets: 100001}, {Jackets: -100001}, {People: -1 << 63}, {Jackets: 1<<63 - 1},
	} {
		fails(i, []int{10, 5}, 1, []api.DockCount{bad}, api.ErrArg)
		fails(i, []int{10, 5}, 1, append(exampleEvents(), bad), api.ErrArg) // also behind what is wrong
		fails(i, []int{10, 5}, 1, slices.Repeat([]api.DockCount{bad}, 101), api.ErrLong)
	}
	fails(0, []int{10, 5}, 0, exampleEvents(), api.ErrArg)
	fails(1, []int{10, 5}, 1, long, api.ErrLong)
	if wrong, _, _, e := dock.Count([]int{10, 5}, 1, long[:100]); e != api.OK || wrong != -1 {
		t.Error(wrong, e)
	}
}
