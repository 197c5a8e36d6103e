package watch_test

import (
	"math"
	"math/rand/v2"
	"reflect"
	"slices"
	"testing"

	"windsock/api"
	"windsock/watch"
)

// isPart reports whether all cells are among others.
func isPart(cells, others []int) bool {
	return !slices.ContainsFunc(cells, func(cell int) bool { return !slices.Contains(others, cell) })
}

// TestMessagesAddNoPlace checks P5.6: a message more, of a minute in which the flight does not send.
func TestMessagesAddNoPlace(t *testing.T) {
	r := newRandom()
	most := sizes{4, 4, 3, 4, 20}
	less := 0
	for i := range 3000 {
		w := randomWatch(r, most)
		w.Every++
		now := within(r, span(w.Minute, end(w, most)))
		h := newHeard(w)
		l := h.trueMail(r, randomCourse(r, w, now, 12), r.IntN(3))
		more := randomMail(r, w, now, 1)[0]
		if more.Minute > w.Minute && (more.Minute-w.Minute)%w.Every == 0 {
			continue
		}
		flying, down, _ := watch.Where(w, l, now)
		fewer, lower, _ := watch.Where(w, append(slices.Clone(l), more), now)
		if !isPart(fewer, flying) || !isPart(lower, down) {
			t.Fatal(i, w, l, now, more, flying, down, fewer, lower)
		}
		if len(fewer) < len(flying) {
			less++
		}
	}
	if less < 300 {
		t.Error(less)
	}
}

// TestRangesAddNoPlace checks P5.6: a greater range of a station, as long as nothing is heard.
func TestRangesAddNoPlace(t *testing.T) {
	r := newRandom()
	most := sizes{4, 4, 3, 4, 20}
	less := 0
	for i := range 1500 {
		w := randomWatch(r, most)
		now := within(r, span(w.Minute, end(w, most)))
		flying, down, _ := watch.Where(w, nil, now)
		w = copyOfWatch(w)
		w.Relays[r.IntN(len(w.Relays))].Range += 1 + r.IntN(3)
		fewer, lower, _ := watch.Where(w, nil, now)
		if !isPart(fewer, flying) || !isPart(lower, down) {
			t.Fatal(i, w, now, flying, down, fewer, lower)
		}
		if len(fewer) < len(flying) {
			less++
		}
	}
	if less < 100 {
		t.Error(less)
	}
}

// TestNobodyHears checks P5.6: without stations that hear, a flight can be wherever one can go in
// so many steps.
func TestNobodyHears(t *testing.T) {
	r := newRandom()
	most := sizes{12, 12, 3, 4, 30}
	for i := range 300 {
		w := randomWatch(r, most)
		for station := range w.Relays {
			w.Relays[station].Open = nil
		}
		now := within(r, span(w.Minute, end(w, most)))
		var flying, down []int
		steps := now - w.Minute
		if steps <= w.Endure {
			flying = cellsWithin(w.Sky, w.Cell, steps)
		}
		if steps > 0 {
			down = cellsWithin(w.Sky, w.Cell, min(steps-1, w.Endure))
		}
		a, b, e := watch.Where(w, nil, now)
		if e != api.OK || !slices.Equal(a, flying) || !slices.Equal(b, down) {
			t.Fatal(i, w, now, a, b, e, flying, down)
		}
		if l, e := watch.Reach(w.Sky, w.Cell, steps); e != api.OK || len(a) > 0 && !slices.Equal(a, l) {
			t.Fatal(i, w, now, a, l, e)
		}
	}
}

// longWatch returns a watch over a whole day, with a sky and a net that are as great as can be.
func longWatch(r *rand.Rand, every int) api.Watch {
	s := randomSky(r, api.WatchGrid, api.WatchGrid)
	w := api.Watch{Sky: s, Net: wideNet(r, len(s.Shut), 0), Cell: randomFree(r, s), Every: every, Endure: 1000 + r.IntN(441)}
	for i := range w.Links {
		w.Links[i].Open = []api.Span{part(r, span(0, 300)), part(r, span(200, 1440)), part(r, span(1000, 1440))}
	}
	return w
}

// placesOf returns where a flight can be flying and down in a minute, minute by minute.
func placesOf(h *heard, l []api.Message, now int) ([]int, []int) {
	w, known := h.w, knownOf(l, now)
	places := []api.Place{{Cell: w.Cell}}
	for minute := w.Minute; minute <= now; minute++ {
		var next []api.Place
		for cell := range w.Shut {
			near := append(nextTo(w.Sky, cell), cell)
			from := func(down bool, cells []int) bool {
				return slices.ContainsFunc(places, func(p api.Place) bool { return p.Down == down && slices.Contains(cells, p.Cell) })
			}
			at, arrives := []int{cell}, -1
			if minute > w.Minute && (minute-w.Minute)%w.Every == 0 {
				arrives = h.arrives(cell, minute)
			}
			silent := holds(span(0, now), arrives)
			down, flying := minute > w.Minute && (from(true, at) || from(false, at)), !w.Shut[cell] && from(false, near)
			if minute == w.Minute {
				flying = cell == w.Cell
			}
			for _, m := range known {
				if m.Minute == minute {
					down, flying = down && m.Down && m.Cell == cell, flying && !m.Down && m.Cell == cell
					silent = silent && m.Cell != cell
				}
			}
			if flying && !silent && minute-w.Minute <= w.Endure {
				next = append(next, api.Place{Cell: cell})
			}
			if down {
				next = append(next, api.Place{Cell: cell, Down: true})
			}
		}
		places = next
	}
	return cellsOf(places, false), cellsOf(places, true)
}

// TestLongDays checks P0.1, P0.5 and P5.4 with days, skies and nets that are as great as can be.
func TestLongDays(t *testing.T) {
	r := newRandom()
	flown, left := 0, 0
	for i := range 6 {
		w := longWatch(r, 30)
		h := &heard{w, simpleRoutes(w.Net), map[[2]int]int{}}
		course := randomCourse(r, w, 1440, 3000)
		l := h.trueMail(r, course, 12)
		if is, e := watch.Agrees(w, l, course); e != api.OK || !is {
			t.Fatal(i, w, l, course, is, e)
		}
		for j := range l {
			fewer := slices.Delete(slices.Clone(l), j, j+1)
			is, e := watch.Agrees(w, fewer, course)
			if e != api.OK || is != h.isTrue(fewer, course) {
				t.Fatal(i, w, fewer, course, is, e)
			}
			if !is {
				left++
			}
		}
		for _, now := range []int{500, 1440} {
			flying, down, e := watch.Where(w, l, now)
			a, b := placesOf(h, l, now)
			if e != api.OK || !slices.Equal(flying, a) || !slices.Equal(down, b) {
				t.Fatal(i, w, l, now, flying, down, e, a, b)
			}
			if len(flying) > 0 {
				flown++
			}
		}
	}
	if flown < 3 || left < 3 {
		t.Error(flown, left)
	}
}

// TestSendsAlways checks P5.4 for a flight that sends in each minute of a long day.
func TestSendsAlways(t *testing.T) {
	r := newRandom()
	flown := 0
	for i := range 3 {
		w := longWatch(r, 1)
		h := &heard{w, simpleRoutes(w.Net), map[[2]int]int{}}
		flying, down, e := watch.Where(w, nil, 250)
		a, b := placesOf(h, nil, 250)
		if e != api.OK || !slices.Equal(flying, a) || !slices.Equal(down, b) {
			t.Fatal(i, w, flying, down, e, a, b)
		}
		flown += len(flying)
	}
	if flown == 0 {
		t.Error(flown)
	}
}

// TestArgumentsAreKept checks the rule R4: no argument is changed.
func TestArgumentsAreKept(t *testing.T) {
	w, same := exampleWatch(), copyOfWatch(exampleWatch())
	w.Relays[1].Open, same.Relays[1].Open = []api.Span{span(30, 1440), span(0, 40)}, []api.Span{span(30, 1440), span(0, 40)}
	l := []api.Message{saidDown(29, 7, 33), said(16, 2, 20), said(12, 4, 30), said(16, 2, 20)}
	course, cells := over(0, 1, 2, 3), []int{7, 4, 7}
	mail, places, searched := slices.Clone(l), slices.Clone(course), slices.Clone(cells)
	watch.Check(w)
	watch.Reach(w.Sky, 0, 3)
	watch.Arrive(w, 3, 15)
	watch.Stage(w, l, 25)
	watch.Calls(w, l, 40)
	watch.Agrees(w, l, course)
	watch.Where(w, l, 25)
	watch.Where(w, l, 40)
	watch.Sweep(w.Sky, 0, cells)
	if !reflect.DeepEqual(w, same) || !slices.Equal(l, mail) || !slices.Equal(course, places) || !slices.Equal(cells, searched) {
		t.Error(w, l, course, cells)
	}
}

// TestResultsAreApart checks the rules R4 and R8: results share no memory, and a call that is
// repeated has the same result.
func TestResultsAreApart(t *testing.T) {
	w, cells := exampleWatch(), []int{7, 4}
	for i, call := range []func() []int{
		func() []int { l, _ := watch.Reach(w.Sky, 0, 3); return l },
		func() []int { _, l, _ := watch.Arrive(w, 3, 15); return l },
		func() []int { l, _, _ := watch.Where(w, nil, 15); return l },
		func() []int { _, l, _ := watch.Where(w, nil, 15); return l },
		func() []int { l, _ := watch.Sweep(w.Sky, 0, cells); return l },
		func() []int { l, _ := watch.Sweep(w.Sky, 0, nil); return append(l, cells...) },
	} {
		one := call()
		want := slices.Clone(one)
		for j := range one {
			one[j] = -7
		}
		one = append(one, 9)
		if other := call(); len(other) == 0 || !slices.Equal(other, want) {
			t.Error(i, other, want)
		}
	}
	flying, down, _ := watch.Where(w, nil, 15)
	want := slices.Clone(down)
	clear(flying[:cap(flying)])
	if !slices.Equal(down, want) {
		t.Error(down, want)
	}
	calls, _ := watch.Calls(w, nil, 40)
	clear(calls)
	if other, _ := watch.Calls(w, nil, 40); len(other) != 2 || other[0] != call(18, 1) {
		t.Error(other)
	}
	if !reflect.DeepEqual(w, exampleWatch()) || !slices.Equal(cells, []int{7, 4}) {
		t.Error(w, cells)
	}
}

// TestNilAndEmpty checks the rule R3.
func TestNilAndEmpty(t *testing.T) {
	w := exampleWatch()
	w.Relays, w.Links, w.After = []api.Relay{{Open: []api.Span{}}}, []api.Link{}, []int{}
	if e := watch.Check(w); e != api.OK {
		t.Error(e)
	}
	if calls, e := watch.Calls(w, []api.Message{}, 40); e != api.OK || len(calls) != 0 {
		t.Error(calls, e)
	}
	if is, e := watch.Agrees(w, []api.Message{}, []api.Place{}); e != api.OK || is {
		t.Error(is, e)
	}
	if l, e := watch.Sweep(w.Sky, 2, []int{}); e != api.OK || !slices.Equal(l, []int{2}) {
		t.Error(l, e)
	}
}

// TestAnyValues checks P0.1 and the rule R5: each function ends, whatever its arguments are.
func TestAnyValues(t *testing.T) {
	values := []int{math.MinInt, math.MinInt + 1, -1, 0, 1, 2, 5, 12, 13, api.WatchDay, api.WatchDay + 1, math.MaxInt - 1, math.MaxInt}
	r := newRandom()
	any := func() int { return values[r.IntN(len(values))] }
	spans := func() []api.Span { return []api.Span{span(any(), any())} }
	for range 20000 {
		s := api.Sky{Wide: any(), Deep: any(), Shut: make([]bool, r.IntN(3))}
		n := api.Net{Relays: []api.Relay{{Cell: any(), Range: any(), Open: spans()}}, Links: []api.Link{{From: any(), To: any(), Delay: any(), Open: spans()}}}
		if r.IntN(2) == 0 {
			s = exampleSky()
		}
		if r.IntN(2) == 0 {
			n = exampleWatch().Net
		}
		w := api.Watch{Sky: s, Net: n, Cell: any(), Minute: any(), Every: any(), Endure: any(), After: []int{any()}}
		if r.IntN(2) == 0 {
			w = exampleWatch()
		}
		l := []api.Message{{Minute: any(), Cell: any(), Down: r.IntN(2) == 0, Came: any()}}
		if r.IntN(2) == 0 {
			l = nil
		}
		watch.Check(w)
		watch.Reach(s, any(), any())
		watch.Arrive(w, any(), any())
		watch.Stage(w, l, any())
		watch.Calls(w, l, any())
		watch.Agrees(w, l, []api.Place{{Cell: w.Cell}, {Cell: any(), Down: r.IntN(2) == 0}})
		watch.Where(w, l, any())
		watch.Sweep(s, any(), []int{any(), any()})
	}
}
