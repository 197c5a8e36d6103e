package watch_test

import (
	"slices"
	"testing"

	"windsock/api"
	"windsock/watch"
)

// cellsOf returns the cells of some places that are down, or are not.
func cellsOf(places []api.Place, down bool) []int {
	var cells []int
	for _, p := range places {
		if p.Down == down {
			cells = append(cells, p.Cell)
		}
	}
	slices.Sort(cells)
	return slices.Compact(cells)
}

// TestAgrees checks P5.4 (Agrees).
func TestAgrees(t *testing.T) {
	then := func(cells ...int) []api.Place { return slices.Concat(over(0, 1, 1, 1, 1), over(cells...)) }
	late, brief := exampleWatch(), exampleWatch()
	late.Minute = 1438
	brief.Endure = 2
	for i, one := range []struct {
		watch  api.Watch
		mail   []api.Message
		course []api.Place
		want   bool
	}{
		{exampleWatch(), nil, nil, false},
		{exampleWatch(), nil, over(0), true},
		{exampleWatch(), nil, over(1), false},
		{exampleWatch(), nil, ended(nil, 0, 1), false},
		{exampleWatch(), nil, over(0, 1, 2, 3), true},
		{exampleWatch(), nil, over(0, 0, 4, 1, 6), true},
		{exampleWatch(), nil, over(0, 2), false},
		{exampleWatch(), nil, over(0, 4, 5), false},
		{exampleWatch(), nil, over(0, -1), false},
		{exampleWatch(), nil, over(0, 4, 8), false},
		{exampleWatch(), nil, over(0, 1<<40), false},
		{exampleWatch(), nil, ended(over(0, 1), 1, 2), true},
		{exampleWatch(), nil, ended(over(0, 1), 2, 1), false},
		{exampleWatch(), nil, append(ended(over(0, 1), 1, 1), over(1)...), false},
		{exampleWatch(), nil, ended(ended(over(0, 1), 1, 1), 2, 1), false},
		// what is sent by 15 is heard at once at the cell 0, and at 22 from the cells 2, 3, 6 and 7
		{exampleWatch(), nil, then(0), false},
		{exampleWatch(), nil, then(2), true},
		{exampleWatch(), nil, over(0, 1, 1, 1, 1, 2, 2, 2, 2, 2, 1, 1), true},
		{exampleWatch(), nil, over(0, 1, 1, 1, 1, 2, 2, 2, 2, 2, 1, 1, 1), false},
		{exampleWatch(), nil, over(0, 1, 1, 1, 1, 1, 2, 2, 2, 2, 1, 1, 1), true},
		{exampleWatch(), nil, over(0, 0, 0, 0, 0, 1), true},
		{exampleWatch(), nil, ended(over(0, 0, 0, 0, 0), 0, 20), true},
		{exampleWatch(), nil, ended(over(0, 1, 2, 3, 3), 3, 20), true},
		// with a message of this minute and cell, by whatever way it came
		{exampleWatch(), []api.Message{said(15, 0, 15)}, then(0), true},
		{exampleWatch(), []api.Message{said(15, 0, 16)}, then(0), false},
		{exampleWatch(), []api.Message{said(15, 0, 16)}, then(0, 0), true},
		{exampleWatch(), []api.Message{said(14, 0, 15), said(15, 1, 15)}, then(0), false},
		// messages, of which only those count that are known
		{exampleWatch(), []api.Message{said(11, 1, 11), said(11, 1, 11)}, over(0, 1, 2), true},
		{exampleWatch(), []api.Message{said(11, 4, 13)}, over(0, 1, 2), true},
		{exampleWatch(), []api.Message{said(11, 4, 13)}, over(0, 1, 2, 2), false},
		{exampleWatch(), []api.Message{said(11, 1, 11), said(11, 4, 12)}, over(0, 1, 2), false},
		{exampleWatch(), []api.Message{said(10, 1, 10)}, over(0), false},
		{exampleWatch(), []api.Message{saidDown(10, 0, 10)}, over(0), false},
		{exampleWatch(), []api.Message{saidDown(11, 1, 11)}, ended(over(0, 1), 1, 1), false},
		{exampleWatch(), []api.Message{saidDown(12, 1, 12)}, ended(over(0, 1), 1, 1), true},
		{exampleWatch(), []api.Message{said(12, 1, 12)}, ended(over(0, 1), 1, 1), false},
		{exampleWatch(), []api.Message{said(13, 1, 13)}, ended(over(0, 1), 1, 1), true},
		// Endure minutes after the first one
		{brief, nil, over(0, 1, 1), true},
		{brief, nil, over(0, 1, 1, 1), false},
		{brief, nil, ended(over(0, 1, 1), 1, 9), true},
		// up to the end of the day
		{late, nil, over(0, 0, 0), true},
		{late, nil, over(0, 0, 0, 0), false},
		{late, nil, ended(over(0), 0, 2), true},
		{late, nil, ended(over(0), 0, 3), false},
	} {
		if is, e := watch.Agrees(one.watch, one.mail, one.course); e != api.OK || is != one.want {
			t.Error(i, is, e)
		}
	}
	w := deafWatch()
	w.Minute, w.Endure = 0, 1440
	if is, e := watch.Agrees(w, nil, over(make([]int, 1441)...)); e != api.OK || !is {
		t.Error(is, e)
	}
}

// TestAgreesSmall checks P5.4 (Agrees): courses, and what differs from them in a place.
func TestAgreesSmall(t *testing.T) {
	r := newRandom()
	most := sizes{3, 3, 3, 5, 10}
	found := map[bool]int{}
	none := 0
	for i := range 4000 {
		w := randomWatch(r, most)
		h := newHeard(w)
		course := randomCourse(r, w, within(r, span(w.Minute, end(w, most))), 12)
		l := h.trueMail(r, course, r.IntN(4))
		switch r.IntN(4) {
		case 0:
			course[r.IntN(len(course))] = api.Place{Cell: r.IntN(len(w.Shut)), Down: r.IntN(3) == 0}
		case 1:
			l = append(l, randomMail(r, w, w.Minute+len(course)-1, 1)...)
		case 2:
			l = l[:r.IntN(len(l)+1)]
		}
		want := isCourse(w, course) && h.isTrue(l, course)
		if is, e := watch.Agrees(w, l, course); e != api.OK || is != want {
			t.Fatal(i, w, l, course, is, e, want)
		}
		found[want]++
		if !isCourse(w, course) {
			none++
		}
	}
	if found[true] < 1000 || found[false]-none < 300 || none < 200 {
		t.Error(found, none)
	}
}

// TestWhere checks P5.4 (Where).
func TestWhere(t *testing.T) {
	all := []int{0, 1, 2, 3, 4, 6, 7}
	brief, alone := exampleWatch(), exampleWatch()
	brief.Endure = 2
	alone.Sky = openSky(4, 2, 1, 4, 5)
	for i, one := range []struct {
		watch        api.Watch
		mail         []api.Message
		now          int
		flying, down []int
	}{
		{exampleWatch(), nil, 10, []int{0}, nil},
		{exampleWatch(), nil, 11, []int{0, 1, 4}, []int{0}},
		{exampleWatch(), nil, 12, []int{0, 1, 2, 4, 6}, []int{0, 1, 4}},
		{exampleWatch(), nil, 14, all, all},
		{exampleWatch(), nil, 15, []int{1, 2, 3, 4, 6, 7}, all},
		{exampleWatch(), nil, 16, all, all},
		{exampleWatch(), nil, 22, all, all},
		// from where what was sent at 15 was not heard, to where what is sent at 30 is not
		{exampleWatch(), nil, 30, []int{1, 2, 3, 4, 6, 7}, all},
		{exampleWatch(), nil, 31, all, all},
		{exampleWatch(), []api.Message{saidDown(14, 2, 16)}, 16, nil, []int{2}},
		{exampleWatch(), []api.Message{saidDown(14, 2, 16)}, 1440, nil, []int{2}},
		{exampleWatch(), []api.Message{saidDown(14, 2, 16)}, 15, []int{1, 2, 3, 4, 6, 7}, all},
		{exampleWatch(), []api.Message{saidDown(11, 0, 11)}, 11, nil, []int{0}},
		{exampleWatch(), []api.Message{said(10, 0, 10)}, 10, []int{0}, nil},
		{exampleWatch(), []api.Message{said(12, 4, 12)}, 13, []int{0, 1, 4}, []int{4}},
		{exampleWatch(), []api.Message{said(15, 7, 15)}, 18, all, []int{1, 2, 3, 6, 7}},
		{exampleWatch(), []api.Message{said(15, 0, 15)}, 15, []int{0}, nil},
		// a message that is not known yet, of the cell where it would be heard
		{exampleWatch(), []api.Message{said(15, 0, 16)}, 15, []int{1, 2, 3, 4, 6, 7}, all},
		// it would have been heard at 22, from the cells around the station
		{exampleWatch(), []api.Message{said(14, 7, 14), said(16, 6, 16)}, 17, []int{1, 2, 3, 6, 7}, []int{6}},
		{exampleWatch(), []api.Message{said(14, 7, 14), said(16, 6, 16)}, 21, all, all},
		{exampleWatch(), []api.Message{said(14, 7, 14), said(16, 6, 16), said(15, 3, 22)}, 22, all, all},
		{brief, nil, 12, []int{0, 1, 2, 4, 6}, []int{0, 1, 4}},
		{brief, nil, 13, nil, []int{0, 1, 2, 4, 6}},
		{brief, nil, 1440, nil, []int{0, 1, 2, 4, 6}},
		{alone, nil, 14, []int{0}, []int{0}},
		{alone, nil, 15, nil, []int{0}},
		{alone, nil, 1440, nil, []int{0}},
	} {
		flying, down, e := watch.Where(one.watch, one.mail, one.now)
		if e != api.OK || !slices.Equal(flying, one.flying) || !slices.Equal(down, one.down) {
			t.Error(i, flying, down, e)
		}
	}
}

// TestWhereNever checks P5.4 (Where): messages that contradict each other, or the watch.
func TestWhereNever(t *testing.T) {
	brief := exampleWatch()
	brief.Endure = 2
	for i, one := range []struct {
		watch api.Watch
		mail  []api.Message
		now   int
	}{
		{exampleWatch(), []api.Message{said(12, 3, 12)}, 13},
		{exampleWatch(), []api.Message{said(10, 1, 10)}, 10},
		{exampleWatch(), []api.Message{saidDown(10, 0, 10)}, 20},
		{exampleWatch(), []api.Message{saidDown(11, 1, 11)}, 20},
		{exampleWatch(), []api.Message{said(14, 2, 14), said(14, 1, 15)}, 15},
		{exampleWatch(), []api.Message{said(14, 2, 14), saidDown(14, 2, 15)}, 15},
		{exampleWatch(), []api.Message{saidDown(14, 2, 14), said(16, 2, 16)}, 16},
		{exampleWatch(), []api.Message{saidDown(14, 2, 14), saidDown(16, 1, 16)}, 16},
		{exampleWatch(), []api.Message{said(14, 7, 14), said(16, 7, 16), saidDown(15, 7, 17)}, 17},
		// between these two it was heard at 22 from wherever it was
		{exampleWatch(), []api.Message{said(14, 3, 14), said(16, 3, 16)}, 22},
		{brief, []api.Message{said(13, 1, 13)}, 13},
	} {
		flying, down, e := watch.Where(one.watch, one.mail, one.now)
		if e != api.ErrNone || flying != nil || down != nil {
			t.Error(i, flying, down, e)
		}
	}
}

// TestWhereSmall checks P5.4 (Where) with all courses of small watches.
func TestWhereSmall(t *testing.T) {
	r := newRandom()
	most := sizes{3, 2, 3, 4, 4}
	never, less, both := 0, 0, 0
	for i := range 1500 {
		w := randomWatch(r, most)
		now := within(r, span(w.Minute, end(w, most)))
		h := newHeard(w)
		courses := coursesOf(w, now)
		l := randomMail(r, w, now, r.IntN(3))
		if r.IntN(2) == 0 {
			l = h.trueMail(r, courses[r.IntN(len(courses))], r.IntN(2))
			l = l[:len(l)-r.IntN(1+min(1, len(l)))]
		}
		var places []api.Place
		agree := 0
		for _, course := range courses {
			if h.isTrue(l, course) {
				agree++
				places = append(places, course[len(course)-1])
			}
		}
		flying, down, e := watch.Where(w, l, now)
		if (e == api.OK) != (agree > 0) || e != api.OK && e != api.ErrNone || !slices.Equal(flying, cellsOf(places, false)) || !slices.Equal(down, cellsOf(places, true)) {
			t.Fatal(i, w, l, now, flying, down, e, places)
		}
		switch {
		case agree == 0:
			never++
		case agree < len(courses):
			less++
		}
		if len(flying) > 0 && len(down) > 0 {
			both++
		}
	}
	if never < 100 || less < 300 || both < 300 {
		t.Error(never, less, both)
	}
}

// TestWhereTrue checks P5.4 and P0.5: whatever course is true, the aircraft is where it can be, in
// each minute.
func TestWhereTrue(t *testing.T) {
	r := newRandom()
	most := sizes{6, 6, 4, 6, 50}
	less := 0
	for i := range 300 {
		w := randomWatch(r, most)
		w.Every += 3
		h := newHeard(w)
		course := randomCourse(r, w, end(w, most), 12+r.IntN(100))
		l := h.trueMail(r, course, r.IntN(5))
		for j, place := range course {
			flying, down, e := watch.Where(w, l, w.Minute+j)
			cells := flying
			if place.Down {
				cells = down
			}
			if e != api.OK || !slices.Contains(cells, place.Cell) {
				t.Fatal(i, w, l, course, j, flying, down, e)
			}
			if is, e := watch.Agrees(w, l, course[:j+1]); e != api.OK || !is {
				t.Fatal(i, w, l, course, j, is, e)
			}
			if len(flying) < len(cellsWithin(w.Sky, w.Cell, j)) {
				less++
			}
		}
	}
	if less < 1000 {
		t.Error(less)
	}
}

// TestPlaceErrors checks the errors of P5.4.
func TestPlaceErrors(t *testing.T) {
	agrees := func(i int, w api.Watch, l []api.Message, course []api.Place, want api.Errno) {
		t.Helper()
		if is, e := watch.Agrees(w, l, course); e != want || is {
			t.Error(i, is, e)
		}
	}
	where := func(i int, w api.Watch, l []api.Message, now int, want api.Errno) {
		t.Helper()
		if flying, down, e := watch.Where(w, l, now); e != want || flying != nil || down != nil {
			t.Error(i, flying, down, e)
		}
	}
	w := exampleWatch()
	for i, bad := range badWatches() {
		agrees(i, bad, nil, over(0), api.ErrArg)
		agrees(i, bad, nil, nil, api.ErrArg)
		where(i, bad, nil, 40, api.ErrArg)
	}
	for i, bad := range badMail() {
		l := []api.Message{said(16, 2, 20), bad}
		agrees(i, w, l, over(0), api.ErrArg)
		agrees(i, w, l, nil, api.ErrArg)
		where(i, w, l, 12, api.ErrArg)
	}
	for i, now := range []int{-1, 0, 9, 1441} {
		where(i, w, nil, now, api.ErrArg)
	}
	many := slices.Repeat([]api.Message{said(11, 1, 11)}, api.WatchMail+1)
	agrees(0, w, many, over(0, 1), api.ErrLong)
	agrees(1, badWatches()[0], many, nil, api.ErrLong)
	agrees(2, w, nil, make([]api.Place, api.WatchDay+2), api.ErrLong)
	agrees(3, badWatches()[0], nil, make([]api.Place, api.WatchDay+2), api.ErrLong)
	agrees(4, badWatches()[0], nil, make([]api.Place, api.WatchDay+1), api.ErrArg)
	agrees(5, w, nil, make([]api.Place, api.WatchDay+1), api.OK)
	where(0, w, many, 40, api.ErrLong)
	where(1, badWatches()[0], many, -1, api.ErrLong)
	if is, e := watch.Agrees(w, many[1:], over(0, 1)); e != api.OK || !is {
		t.Error(is, e)
	}
	if flying, _, e := watch.Where(w, many[1:], 11); e != api.OK || !slices.Equal(flying, []int{1}) {
		t.Error(flying, e)
	}
}
