package watch_test

import (
	"math/rand/v2"
	"slices"
	"testing"

	"windsock/api"
	"windsock/watch"
)

// call returns a call.
func call(minute, stage int) api.WatchCall { return api.WatchCall{Minute: minute, Stage: stage} }

// stageOf returns the stage of a watch in a minute.
func stageOf(w api.Watch, l []api.Message, now int) int {
	contact, stage := w.Minute, 0
	for _, m := range knownOf(l, now) {
		if m.Down {
			return 0
		}
		contact = max(contact, m.Minute)
	}
	for _, minutes := range w.After {
		if now >= contact+w.Every+minutes {
			stage++
		}
	}
	return stage
}

// callsOf returns the calls of a watch up to a minute.
func callsOf(w api.Watch, l []api.Message, until int) []api.WatchCall {
	var calls []api.WatchCall
	before := 0
	for minute := w.Minute; minute <= until; minute++ {
		now := stageOf(w, l, minute)
		for stage := 1; stage <= now; stage++ {
			if stage > before {
				calls = append(calls, call(minute, stage))
			}
		}
		before = now
	}
	return calls
}

// withAfter returns the watch of the chapter with other stages.
func withAfter(after ...int) api.Watch {
	w := exampleWatch()
	w.After = after
	return w
}

// TestStage checks P5.3 (Stage).
func TestStage(t *testing.T) {
	mail := []api.Message{said(12, 4, 30), said(16, 2, 20), saidDown(29, 7, 33)}
	for i, one := range []struct {
		watch api.Watch
		mail  []api.Message
		now   int
		want  int
	}{
		{exampleWatch(), nil, 10, 0}, {exampleWatch(), nil, 17, 0}, {exampleWatch(), nil, 18, 1}, {exampleWatch(), nil, 24, 1},
		{exampleWatch(), nil, 25, 2}, {exampleWatch(), nil, 1440, 2},
		// a message counts from when it comes on, as of its minute
		{exampleWatch(), mail, 19, 1}, {exampleWatch(), mail, 20, 0}, {exampleWatch(), mail, 23, 0}, {exampleWatch(), mail, 24, 1},
		{exampleWatch(), mail, 30, 1}, {exampleWatch(), mail, 31, 2}, {exampleWatch(), mail, 32, 2},
		// nobody is overdue who is known to be down, whatever came later
		{exampleWatch(), mail, 33, 0}, {exampleWatch(), mail, 1440, 0},
		{exampleWatch(), append(slices.Clone(mail), said(30, 7, 40)), 60, 0},
		{exampleWatch(), []api.Message{said(10, 0, 10), said(40, 3, 100)}, 25, 2},
		{exampleWatch(), []api.Message{said(50, 3, 60), said(20, 3, 61)}, 61, 1},
		// a stage can begin as soon as nothing was heard; none does without After
		{withAfter(0), nil, 14, 0}, {withAfter(0), nil, 15, 1}, {withAfter(0, 1, 2), nil, 17, 3}, {withAfter(), nil, 1440, 0},
		{withAfter(1425), nil, 1439, 0}, {withAfter(1425), nil, 1440, 1}, {withAfter(1426), nil, 1440, 0},
	} {
		if n, e := watch.Stage(one.watch, one.mail, one.now); e != api.OK || n != one.want {
			t.Error(i, n, e)
		}
	}
}

// TestCalls checks P5.3 (Calls).
func TestCalls(t *testing.T) {
	heard := said(16, 2, 20)
	twice := []api.WatchCall{call(18, 1), call(24, 1), call(31, 2)}
	late := exampleWatch()
	late.Minute = 1440
	for i, one := range []struct {
		watch api.Watch
		mail  []api.Message
		until int
		want  []api.WatchCall
	}{
		{exampleWatch(), nil, 40, []api.WatchCall{call(18, 1), call(25, 2)}},
		{exampleWatch(), nil, 1440, []api.WatchCall{call(18, 1), call(25, 2)}},
		{exampleWatch(), nil, 24, []api.WatchCall{call(18, 1)}},
		{exampleWatch(), nil, 17, nil},
		{exampleWatch(), nil, 10, nil},
		{exampleWatch(), []api.Message{heard}, 40, twice},
		{exampleWatch(), []api.Message{said(12, 4, 30), heard}, 40, twice},
		{exampleWatch(), []api.Message{saidDown(29, 7, 33), heard}, 40, twice},
		// a stage that goes on is not called again, even if the contact is another one
		{exampleWatch(), []api.Message{said(12, 4, 20)}, 40, []api.WatchCall{call(18, 1), call(27, 2)}},
		// from the second stage back to the first one, and on again
		{exampleWatch(), []api.Message{said(18, 4, 28)}, 40, []api.WatchCall{call(18, 1), call(25, 2), call(33, 2)}},
		{withAfter(0, 1, 4), []api.Message{said(16, 4, 30)}, 40, []api.WatchCall{call(15, 1), call(16, 2), call(19, 3)}},
		{withAfter(0), nil, 40, []api.WatchCall{call(15, 1)}},
		{withAfter(), nil, 40, nil},
		// a message that comes so late that its minute matters no more
		{withAfter(0, 1), []api.Message{said(16, 4, 16), said(17, 4, 40)}, 40, []api.WatchCall{call(15, 1), call(21, 1), call(22, 2)}},
		{late, []api.Message{said(1440, 0, 1440)}, 1440, nil},
	} {
		if l, e := watch.Calls(one.watch, one.mail, one.until); e != api.OK || !slices.Equal(l, one.want) {
			t.Error(i, l, e)
		}
	}
}

// TestCallsSmall checks P5.3 minute by minute, and that the order of messages does not matter.
func TestCallsSmall(t *testing.T) {
	r := newRandom()
	most := sizes{3, 2, 2, 2, 30}
	anew := 0
	for i := range 1500 {
		w := randomWatch(r, most)
		until := within(r, span(w.Minute, end(w, most)))
		l := randomMail(r, w, end(w, most), r.IntN(6))
		want := callsOf(w, l, until)
		for range 3 {
			calls, e := watch.Calls(w, l, until)
			if e != api.OK || !slices.Equal(calls, want) {
				t.Fatal(i, w, l, until, calls, e, want)
			}
			for range 5 {
				now := within(r, span(w.Minute, api.WatchDay))
				if stage, e := watch.Stage(w, l, now); e != api.OK || stage != stageOf(w, l, now) {
					t.Fatal(i, w, l, now, stage, e)
				}
			}
			shuffle(r, l)
		}
		for j, one := range want {
			if slices.ContainsFunc(want[:j], func(c api.WatchCall) bool { return c.Stage == one.Stage }) {
				anew++
			}
		}
	}
	if anew < 100 {
		t.Error(anew)
	}
}

func shuffle(r *rand.Rand, l []api.Message) {
	r.Shuffle(len(l), func(i, j int) { l[i], l[j] = l[j], l[i] })
}

// TestCallsStay checks P5.3: no message changes a call that was made before it came, and calls up
// to a minute are those of any later one.
func TestCallsStay(t *testing.T) {
	r := newRandom()
	most := sizes{3, 2, 2, 2, 40}
	changes := 0
	for i := range 1000 {
		w := randomWatch(r, most)
		until := end(w, most)
		l := randomMail(r, w, until, r.IntN(5))
		more := randomMail(r, w, until, 1)[0]
		before, _ := watch.Calls(w, l, until)
		after, e := watch.Calls(w, append(slices.Clone(l), more), until)
		early := func(calls []api.WatchCall, least int) []api.WatchCall {
			at := slices.IndexFunc(calls, func(c api.WatchCall) bool { return c.Minute >= least })
			if at < 0 {
				return calls
			}
			return calls[:at]
		}
		if e != api.OK || !slices.Equal(early(before, more.Came), early(after, more.Came)) {
			t.Fatal(i, w, l, more, before, after, e)
		}
		if !slices.Equal(before, after) {
			changes++
		}
		now := within(r, span(w.Minute, until))
		if calls, _ := watch.Calls(w, l, now); !slices.Equal(calls, early(before, now+1)) {
			t.Fatal(i, w, l, now, calls, before)
		}
	}
	if changes < 100 {
		t.Error(changes)
	}
}

// TestCallsInTime checks P5.3 and P0.5: a flight of which nothing is heard is called at each stage.
func TestCallsInTime(t *testing.T) {
	r := newRandom()
	for i := range 300 {
		w := randomWatch(r, sizes{3, 2, 2, 2, 60})
		var want []api.WatchCall
		for stage, after := range w.After {
			if minute := w.Minute + w.Every + after; minute <= api.WatchDay {
				want = append(want, call(minute, stage+1))
			}
		}
		if calls, e := watch.Calls(w, nil, api.WatchDay); e != api.OK || !slices.Equal(calls, want) {
			t.Fatal(i, w, calls, e, want)
		}
	}
}

// TestStageErrors checks the errors of P5.3.
func TestStageErrors(t *testing.T) {
	fails := func(i int, w api.Watch, l []api.Message, now int, want api.Errno) {
		t.Helper()
		if n, e := watch.Stage(w, l, now); e != want || n != 0 {
			t.Error(i, n, e)
		}
		if calls, e := watch.Calls(w, l, now); e != want || calls != nil {
			t.Error(i, calls, e)
		}
	}
	w := exampleWatch()
	for i, bad := range badWatches() {
		fails(i, bad, nil, 40, api.ErrArg)
	}
	for i, bad := range badMail() {
		fails(i, w, []api.Message{said(16, 2, 20), bad}, 40, api.ErrArg)
		fails(i, w, []api.Message{bad}, 12, api.ErrArg)
	}
	for i, now := range []int{-1, 0, 9, 1441} {
		fails(i, w, nil, now, api.ErrArg)
	}
	many := slices.Repeat([]api.Message{said(16, 2, 20)}, api.WatchMail+1)
	fails(0, w, many, 40, api.ErrLong)
	fails(1, w, make([]api.Message, api.WatchMail+1), 40, api.ErrLong)
	fails(2, badWatches()[0], many, -1, api.ErrLong)
	if n, e := watch.Stage(w, many[1:], 40); e != api.OK || n != 2 {
		t.Error(n, e)
	}
	if calls, e := watch.Calls(w, many[1:], 40); e != api.OK || len(calls) != 3 {
		t.Error(calls, e)
	}
}
