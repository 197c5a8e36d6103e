package dock_test

import (
	"math/rand/v2"
	"slices"
	"testing"

	"windsock/api"
	"windsock/dock"
)

// mayBeThere reports whether a plane may be there in a minute.
func mayBeThere(s api.DockStay, minute int) bool { return holds(span(s.Come.Low, s.Go.High), minute) }

// crowdOf returns the first minute at which more stays may be there than there are berths, and
// these; -1 if there is none.
func crowdOf(stays []api.DockStay, berths int) (int, []int) {
	for minute := range api.DockMinutes + 1 {
		var list []int
		for i, s := range stays {
			if mayBeThere(s, minute) {
				list = append(list, i)
			}
		}
		if len(list) > berths {
			return minute, list
		}
	}
	return -1, nil
}

// areApart reports whether two stays cannot be there in one minute.
func areApart(one, other api.DockStay) bool {
	return one.Go.High < other.Come.Low || other.Go.High < one.Come.Low
}

// areBerths reports whether numbers are berths for as many of the stays.
func areBerths(stays []api.DockStay, berths int, numbers []int) bool {
	for i, number := range numbers {
		for j := range i {
			if numbers[j] == number && !areApart(stays[i], stays[j]) {
				return false
			}
		}
		if !holds(span(0, berths-1), number) {
			return false
		}
	}
	return true
}

// counted returns all lists of some numbers that are less than one, in lexicographic order.
func counted(length, less int) [][]int {
	lists := [][]int{{}}
	for range length {
		var longer [][]int
		for _, list := range lists {
			for number := range less {
				longer = append(longer, append(slices.Clone(list), number))
			}
		}
		lists = longer
	}
	return lists
}

// canGoOn reports whether there are berths that begin with some numbers. It lets the planes come one
// by one, and keeps all stays (or none, -1) that can have each berth then.
func canGoOn(stays []api.DockStay, berths int, numbers []int) bool {
	var coming []int
	for i := range stays {
		coming = append(coming, i)
	}
	slices.SortFunc(coming, func(i, j int) int { return stays[i].Come.Low - stays[j].Come.Low })
	taken := map[[api.DockBerths]int]bool{{-1, -1, -1, -1, -1, -1}: true}
	for _, i := range coming {
		next := map[[api.DockBerths]int]bool{}
		for have := range taken {
			for berth, j := range have {
				if j >= 0 && areApart(stays[i], stays[j]) {
					have[berth] = -1
				}
			}
			for berth := range berths {
				if have[berth] < 0 && (i >= len(numbers) || numbers[i] == berth) {
					then := have
					then[berth] = i
					next[then] = true
				}
			}
		}
		taken = next
	}
	return len(taken) > 0
}

// berthsOf returns the first berths, berth by berth.
func berthsOf(stays []api.DockStay, berths int) []int {
	numbers := []int{}
	for range stays {
		numbers = append(numbers, 0)
		for last := len(numbers) - 1; !canGoOn(stays, berths, numbers); numbers[last]++ {
			if numbers[last] == berths {
				return nil
			}
		}
	}
	return numbers
}

// TestBerthExamples checks P6.1 (Berth).
func TestBerthExamples(t *testing.T) {
	for i, one := range []struct {
		stays  []api.DockStay
		berths int
		want   []int // nil for none
	}{
		{exampleStays(), 3, []int{0, 1, 0, 2}},
		{exampleStays(), 6, []int{0, 1, 0, 2}},
		{exampleStays(), 2, nil},
		{exampleStays(), 0, nil},
		{nil, 0, []int{}},
		{nil, 6, []int{}},
		// one minute in which both may be there is enough
		{[]api.DockStay{exactStay(10, 20), exactStay(20, 30)}, 1, nil},
		{[]api.DockStay{exactStay(10, 20), exactStay(20, 30)}, 2, []int{0, 1}},
		{[]api.DockStay{exactStay(10, 20), exactStay(21, 30)}, 1, []int{0, 0}},
		{[]api.DockStay{exactStay(21, 30), exactStay(10, 20)}, 1, []int{0, 0}},
		{[]api.DockStay{exactStay(0, 1440), exactStay(1440, 1440), exactStay(0, 0)}, 1, nil},
		{[]api.DockStay{exactStay(0, 1440), exactStay(1440, 1440), exactStay(0, 0)}, 2, []int{0, 1, 1}},
		// one may be there still, and the other one already
		{[]api.DockStay{{Come: span(1, 5), Go: span(7, 9)}, {Come: span(9, 15), Go: span(12, 20)}}, 1, nil},
		{[]api.DockStay{{Come: span(1, 5), Go: span(7, 9)}, {Come: span(10, 15), Go: span(10, 20)}}, 1, []int{0, 0}},
		// a stay may end as soon as it begins
		{[]api.DockStay{{Come: span(3, 8), Go: span(3, 8)}, {Come: span(8, 9), Go: span(8, 9)}}, 1, nil},
		{[]api.DockStay{{Come: span(3, 8), Go: span(3, 8)}, {Come: span(9, 9), Go: span(9, 9)}}, 1, []int{0, 0}},
		// the first berth that is free for the second one would leave none for the last one
		{[]api.DockStay{exactStay(1, 2), exactStay(5, 6), exactStay(2, 4), exactStay(4, 5)}, 2, []int{0, 1, 1, 0}},
		{[]api.DockStay{exactStay(1, 2), exactStay(5, 6), exactStay(2, 4), exactStay(4, 5)}, 3, []int{0, 0, 1, 2}},
		{slices.Repeat([]api.DockStay{exactStay(3, 3)}, 6), 6, []int{0, 1, 2, 3, 4, 5}},
		{slices.Repeat([]api.DockStay{exactStay(3, 3)}, 7), 6, nil},
	} {
		l, e := dock.Berth(one.stays, one.berths)
		if one.want == nil && (e != api.ErrNone || l != nil) {
			t.Error(i, l, e)
		}
		if one.want != nil && (e != api.OK || !slices.Equal(l, one.want)) {
			t.Error(i, l, e)
		}
	}
}

// TestCrowdExamples checks P6.1 (Crowd).
func TestCrowdExamples(t *testing.T) {
	for i, one := range []struct {
		stays  []api.DockStay
		berths int
		minute int // -1 for none
		want   []int
	}{
		{exampleStays(), 2, 730, []int{1, 2, 3}},
		{exampleStays(), 1, 650, []int{0, 1}},
		{exampleStays(), 0, 600, []int{0}},
		{exampleStays(), 3, -1, nil},
		{nil, 0, -1, nil},
		{[]api.DockStay{exactStay(10, 20), exactStay(20, 30)}, 1, 20, []int{0, 1}},
		{[]api.DockStay{exactStay(10, 20), exactStay(21, 30)}, 1, -1, nil},
		{[]api.DockStay{exactStay(10, 20), exactStay(21, 30)}, 0, 10, []int{0}},
		{[]api.DockStay{exactStay(21, 30), exactStay(10, 20), exactStay(20, 22)}, 1, 20, []int{1, 2}},
		// all of them, though one less would be too many too
		{[]api.DockStay{exactStay(5, 9), exactStay(3, 5), exactStay(5, 5), exactStay(6, 9)}, 1, 5, []int{0, 1, 2}},
		{[]api.DockStay{exactStay(0, 1440), exactStay(1440, 1440)}, 1, 1440, []int{0, 1}},
		{[]api.DockStay{exactStay(0, 0), exactStay(0, 1440)}, 1, 0, []int{0, 1}},
		{slices.Repeat([]api.DockStay{exactStay(3, 3)}, 7), 6, 3, []int{0, 1, 2, 3, 4, 5, 6}},
		{slices.Repeat([]api.DockStay{exactStay(3, 3)}, 6), 6, -1, nil},
	} {
		minute, l, e := dock.Crowd(one.stays, one.berths)
		if one.minute < 0 && (e != api.ErrState || minute != 0 || l != nil) {
			t.Error(i, minute, l, e)
		}
		if one.minute >= 0 && (e != api.OK || minute != one.minute || !slices.Equal(l, one.want)) {
			t.Error(i, minute, l, e)
		}
	}
}

// TestAllBerths compares Berth with all lists of numbers, and Crowd with all minutes (P6.1).
func TestAllBerths(t *testing.T) {
	r := newRandom()
	none := 0
	for i := range 2000 {
		stays, berths := randomStays(r, r.IntN(6), 4+r.IntN(20)), r.IntN(4)
		lists := counted(len(stays), berths)
		want := slices.IndexFunc(lists, func(numbers []int) bool { return areBerths(stays, berths, numbers) })
		l, e := dock.Berth(stays, berths)
		if want < 0 && (e != api.ErrNone || l != nil) || want >= 0 && (e != api.OK || !slices.Equal(l, lists[want])) {
			t.Fatal(i, stays, berths, l, e)
		}
		at, crowd := crowdOf(stays, berths)
		minute, l, e := dock.Crowd(stays, berths)
		if at < 0 && e != api.ErrState || at >= 0 && (e != api.OK || minute != at || !slices.Equal(l, crowd)) {
			t.Fatal(i, stays, berths, minute, l, e)
		}
		if want < 0 {
			none++
		}
	}
	if none < 500 || none > 1500 {
		t.Error(none)
	}
}

// busyStays returns as many stays as can be, which are so long that often about as many as there are
// berths may be there at a time.
func busyStays(r *rand.Rand, berths int) []api.DockStay {
	var stays []api.DockStay
	for len(stays) < api.DockStays {
		low := r.IntN(1200)
		high := low + r.IntN(120*berths)
		stay := api.DockStay{Come: span(low, min(high, low+r.IntN(50))), Go: span(low, min(high, api.DockMinutes))}
		stay.Go.Low, stay.Come.High = max(low, stay.Go.High-r.IntN(50)), min(stay.Come.High, stay.Go.High)
		stays = append(stays, stay)
		if at, _ := crowdOf(stays, berths); at >= 0 && r.IntN(10) > 0 {
			stays = stays[:len(stays)-1]
		}
	}
	return stays
}

// TestManyBerths compares Berth and Crowd for as many stays as can be with berths that are found in
// another way (P6.1).
func TestManyBerths(t *testing.T) {
	r := newRandom()
	some, none := 0, 0
	for i := range 150 {
		berths := 2 + r.IntN(5)
		stays := busyStays(r, berths)
		want := berthsOf(stays, berths)
		l, e := dock.Berth(stays, berths)
		minute, crowd, e2 := dock.Crowd(stays, berths)
		if want == nil {
			none++
			if e != api.ErrNone || e2 != api.OK || len(crowd) <= berths {
				t.Fatal(i, stays, berths, l, e, minute, crowd, e2)
			}
			continue
		}
		some++
		if e != api.OK || !slices.Equal(l, want) || !areBerths(stays, berths, l) || e2 != api.ErrState {
			t.Fatal(i, stays, berths, l, e, want, e2)
		}
	}
	if some < 30 || none < 15 {
		t.Error(some, none)
	}
}

// come returns the minutes in which a plane is there, in truth.
func come(r *rand.Rand, s api.DockStay) api.Span {
	low := within(r, s.Come)
	return span(low, within(r, span(max(low, s.Go.Low), s.Go.High)))
}

// TestOneOnABerth checks P6.1: whenever planes come and go, no two are on one berth at a time.
func TestOneOnABerth(t *testing.T) {
	r := newRandom()
	shared := 0
	for i := range 1000 {
		stays := randomStays(r, 6, 60)
		numbers, e := dock.Berth(stays, 4)
		if e != api.OK {
			continue
		}
		for range 20 {
			minutes := map[[2]int]bool{}
			for j, s := range stays {
				truth := come(r, s)
				for minute := truth.Low; minute <= truth.High; minute++ {
					place := [2]int{numbers[j], minute}
					if minutes[place] {
						t.Fatal(i, stays, numbers, place)
					}
					minutes[place] = true
				}
			}
		}
		shared++
	}
	if shared < 100 {
		t.Error(shared)
	}
}

// TestStaysErrors checks the errors of P6.1.
func TestStaysErrors(t *testing.T) {
	fails := func(i int, stays []api.DockStay, berths int, want api.Errno) {
		t.Helper()
		if l, e := dock.Berth(stays, berths); e != want || l != nil {
			t.Error(i, l, e)
		}
		if minute, l, e := dock.Crowd(stays, berths); e != want || minute != 0 || l != nil {
			t.Error(i, minute, l, e)
		}
	}
	for i, bad := range []api.DockStay{
		{Come: span(-1, 3), Go: span(4, 5)},
		{Come: span(2, 1), Go: span(3, 4)},
		{Come: span(1, 2), Go: span(4, 3)},
		{Come: span(5, 6), Go: span(4, 7)},
		{Come: span(5, 9), Go: span(6, 8)},
		{Come: span(5, 9), Go: span(6, 1441)},
		{Come: span(1441, 1441), Go: span(1441, 1441)},
		{Come: span(0, 1441), Go: span(0, 1440)},
	} {
		fails(i, []api.DockStay{bad}, 1, api.ErrArg)
		fails(i, append(exampleStays(), bad), 2, api.ErrArg)
		fails(i, slices.Repeat([]api.DockStay{bad}, 13), 7, api.ErrLong)
	}
	for i, berths := range []int{-1, 7, 1 << 40, -1 << 63} {
		fails(i, exampleStays(), berths, api.ErrArg)
		fails(i, nil, berths, api.ErrArg)
		fails(i, make([]api.DockStay, 13), berths, api.ErrLong)
	}
	fails(0, make([]api.DockStay, 13), 6, api.ErrLong)
	if l, e := dock.Berth(make([]api.DockStay, 12), 0); e != api.ErrNone || l != nil {
		t.Error(l, e)
	}
}
