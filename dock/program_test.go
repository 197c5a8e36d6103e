package dock_test

import (
	"math/rand/v2"
	"slices"
	"testing"

	"windsock/api"
	"windsock/dock"
)

// played is programs, how many steps each dispatcher has done, and who has each thing.
type played struct {
	programs [][]api.DockStep
	done     []int
	has      mooring
}

// play does a schedule, up to a step that cannot be done, and returns its index; -1 if there is none.
func play(programs [][]api.DockStep, schedule []int) (played, int) {
	p := played{programs, make([]int, len(programs)), mooring{}}
	for i, who := range schedule {
		if !p.can(who) {
			return p, i
		}
		step := programs[who][p.done[who]]
		p.done[who]++
		if step.Kind == api.DockFree {
			delete(p.has, step.Thing)
		} else {
			p.has[step.Thing] = who
		}
	}
	return p, -1
}

func (p played) ended(who int) bool { return p.done[who] == len(p.programs[who]) }

// can reports whether a dispatcher has a next step that can be done.
func (p played) can(who int) bool {
	if p.ended(who) {
		return false
	}
	step := p.programs[who][p.done[who]]
	return step.Kind == api.DockFree || p.has.holder(step.Thing) == -1
}

// isStuck reports whether some have a next step, and none of these can be done.
func (p played) isStuck() bool {
	some := false
	for who := range p.programs {
		if p.can(who) {
			return false
		}
		some = some || !p.ended(who)
	}
	return some
}

// chain returns the chain of dispatchers who are stuck.
func (p played) chain() []int {
	who := 0
	for p.ended(who) {
		who++
	}
	var list []int
	for !slices.Contains(list, who) {
		list = append(list, who)
		if p.ended(who) {
			return list
		}
		who = p.has.holder(p.programs[who][p.done[who]].Thing)
	}
	return append(list, who)
}

// stuckOf returns the first schedule behind which the dispatchers are stuck, by looking at all that
// can be done, and whether there is one.
func stuckOf(programs [][]api.DockStep) ([]int, bool) {
	schedules := [][]int{nil}
	for len(schedules) > 0 {
		var longer [][]int
		for _, schedule := range schedules {
			p, _ := play(programs, schedule)
			if p.isStuck() {
				return schedule, true
			}
			for who := range programs {
				if p.can(who) {
					longer = append(longer, append(slices.Clone(schedule), who))
				}
			}
		}
		schedules = longer
	}
	return nil, false
}

// stuckLater does the same, but keeps only the first schedule for each number of steps that each
// dispatcher has done.
func stuckLater(programs [][]api.DockStep) ([]int, bool) {
	schedules := map[[api.DockWho]int][]int{{}: nil}
	for len(schedules) > 0 {
		longer, best, found := map[[api.DockWho]int][]int{}, []int(nil), false
		for done, schedule := range schedules {
			p, _ := play(programs, schedule)
			if p.isStuck() && (!found || slices.Compare(schedule, best) < 0) {
				best, found = schedule, true
			}
			for who := range programs {
				next := done
				next[who]++
				list, is := longer[next]
				one := append(slices.Clone(schedule), who)
				if p.can(who) && (!is || slices.Compare(one, list) < 0) {
					longer[next] = one
				}
			}
		}
		if found {
			return best, true
		}
		schedules = longer
	}
	return nil, false
}

// checkRun compares Run with a schedule that is played in another way.
func checkRun(t *testing.T, things int, programs [][]api.DockStep, schedule []int) int {
	t.Helper()
	p, want := play(programs, schedule)
	has, done, at, e := dock.Run(things, programs, schedule)
	if e != api.OK || at != want || !slices.Equal(done, p.done) || len(has) != things {
		t.Fatal(programs, schedule, has, done, at, e)
	}
	for thing, who := range has {
		if who != p.has.holder(thing) {
			t.Fatal(programs, schedule, has, done, at, e)
		}
	}
	return at
}

// checkStuck compares Stuck with a schedule behind which the dispatchers are stuck, if they ever are.
func checkStuck(t *testing.T, things int, programs [][]api.DockStep, want []int, found bool) {
	t.Helper()
	l, chain, e := dock.Stuck(things, programs)
	if !found {
		if e != api.ErrNone || l != nil || chain != nil {
			t.Fatal(programs, l, chain, e)
		}
		return
	}
	p, at := play(programs, l)
	if e != api.OK || at != -1 || !slices.Equal(l, want) || !slices.Equal(chain, p.chain()) {
		t.Fatal(programs, l, chain, e, want)
	}
	// nobody can do a step behind it
	for who := range programs {
		if _, _, at, e := dock.Run(things, programs, append(slices.Clone(l), who)); e != api.OK || at != len(l) {
			t.Fatal(programs, l, who, at, e)
		}
	}
}

// TestRunExamples checks P6.5.
func TestRunExamples(t *testing.T) {
	kept := [][]api.DockStep{{take(1)}, {take(0), take(1)}, nil}
	for i, one := range []struct {
		things    int
		programs  [][]api.DockStep
		schedule  []int
		has, done []int
		at        int
	}{
		{2, examplePrograms(), []int{0, 0, 1}, []int{0, 0}, []int{2, 0}, 2},
		{2, examplePrograms(), nil, []int{-1, -1}, []int{0, 0}, -1},
		{2, examplePrograms(), []int{0, 1}, []int{0, 1}, []int{1, 1}, -1},
		{2, examplePrograms(), []int{0, 1, 1}, []int{0, 1}, []int{1, 1}, 2},
		{2, examplePrograms(), []int{0, 0, 0, 1}, []int{0, 1}, []int{3, 1}, -1},
		{2, examplePrograms(), []int{0, 0, 0, 0, 1, 1, 1, 1}, []int{-1, -1}, []int{4, 4}, -1},
		// nothing is left to do, whatever comes behind it
		{2, examplePrograms(), []int{0, 0, 0, 0, 0, 1}, []int{-1, -1}, []int{4, 0}, 4},
		{3, kept, []int{2}, []int{-1, -1, -1}, []int{0, 0, 0}, 0},
		{3, kept, []int{1, 1, 0}, []int{1, 1, -1}, []int{0, 2, 0}, 2},
		{4, kept, []int{0, 1, 1}, []int{1, 0, -1, -1}, []int{1, 1, 0}, 2},
		{1, [][]api.DockStep{nil}, nil, []int{-1}, []int{0}, -1},
	} {
		has, done, at, e := dock.Run(one.things, one.programs, one.schedule)
		if e != api.OK || !slices.Equal(has, one.has) || !slices.Equal(done, one.done) || at != one.at {
			t.Error(i, has, done, at, e)
		}
	}
}

// randomSchedule returns a schedule in which each dispatcher has about as many steps as are left.
func randomSchedule(r *rand.Rand, programs [][]api.DockStep) []int {
	var schedule []int
	for who, program := range programs {
		schedule = append(schedule, slices.Repeat([]int{who}, len(program))...)
	}
	r.Shuffle(len(schedule), func(i, j int) { schedule[i], schedule[j] = schedule[j], schedule[i] })
	if len(schedule) > 0 && r.IntN(3) == 0 {
		schedule = append(schedule[:r.IntN(len(schedule))], r.IntN(len(programs)))
	}
	return schedule
}

// TestSchedules compares Run with schedules that are played in another way (P6.5).
func TestSchedules(t *testing.T) {
	r := newRandom()
	ended := map[bool]int{}
	for range 20000 {
		things := 1 + r.IntN(api.DockThings)
		programs := randomPrograms(r, things, 1+r.IntN(api.DockWho), 1+r.IntN(api.DockSteps))
		schedule := randomSchedule(r, programs)
		ended[checkRun(t, things, programs, schedule) < 0]++
	}
	if ended[true] < 2000 || ended[false] < 2000 {
		t.Error(ended)
	}
}

// TestOneHasIt checks P6.5: whatever the schedule is, no two dispatchers have one thing.
func TestOneHasIt(t *testing.T) {
	r := newRandom()
	full := 0
	for range 5000 {
		programs := randomPrograms(r, 2, api.DockWho, api.DockSteps)
		_, done, _, e := dock.Run(2, programs, randomSchedule(r, programs))
		if e != api.OK {
			t.Fatal(programs, e)
		}
		var count [2]int
		for who, steps := range done {
			for _, step := range programs[who][:steps] {
				if step.Kind == api.DockTake {
					count[step.Thing]++
				} else {
					count[step.Thing]--
				}
			}
		}
		if max(count[0], count[1]) > 1 || min(count[0], count[1]) < 0 {
			t.Fatal(programs, done)
		}
		if count == [2]int{1, 1} {
			full++
		}
	}
	if full < 1000 {
		t.Error(full)
	}
}

// TestStuckExamples checks P6.6.
func TestStuckExamples(t *testing.T) {
	same := examplePrograms()
	same[1] = same[0]
	for i, one := range []struct {
		things          int
		programs        [][]api.DockStep
		schedule, chain []int // nil for never
	}{
		{2, examplePrograms(), []int{0, 1}, []int{0, 1, 0}},
		{4, examplePrograms(), []int{0, 1}, []int{0, 1, 0}},
		{2, same, nil, nil},
		{1, [][]api.DockStep{nil}, nil, nil},
		{1, [][]api.DockStep{{take(0)}}, nil, nil},
		{1, [][]api.DockStep{nil, {take(0), free(0), take(0), free(0)}, {take(0), free(0)}}, nil, nil},
		// one goes home with the thing, and has no next step
		{1, [][]api.DockStep{{take(0), free(0)}, {take(0)}}, []int{1}, []int{0, 1}},
		{1, [][]api.DockStep{{take(0)}, {take(0)}}, []int{0}, []int{1, 0}},
		{1, [][]api.DockStep{{take(0)}, {take(0)}, {take(0)}}, []int{0}, []int{1, 0}},
		// three in a ring; it is shorter if one goes home
		{3, [][]api.DockStep{{take(0), take(1)}, {take(1), take(2)}, {take(2), take(0)}}, []int{0, 0, 2}, []int{1, 0}},
		{3, [][]api.DockStep{{take(0), take(1), free(0), free(1)}, {take(1), take(2), free(1), free(2)}, {take(2), take(0), free(2), free(0)}}, []int{0, 1, 2}, []int{0, 1, 2, 0}},
		{3, [][]api.DockStep{{take(0), take(2), free(0), free(2)}, {take(1), take(0), free(1), free(0)}, {take(2), take(1), free(2), free(1)}}, []int{0, 1, 2}, []int{0, 2, 1, 0}},
		// the chain ends with the first one that is in it, not only with the first one of all
		{3, [][]api.DockStep{{take(0), free(0)}, {take(0), take(1), free(1), free(0)}, {take(1), take(0), free(0), free(1)}}, []int{1, 2}, []int{0, 1, 2, 1}},
		// one who waits needs not be the first one
		{3, [][]api.DockStep{{take(2), free(2)}, {take(0), take(1), free(1), free(0)}, {take(1), take(0), free(0), free(1)}}, []int{0, 0, 1, 2}, []int{1, 2, 1}},
	} {
		l, chain, e := dock.Stuck(one.things, one.programs)
		if one.schedule == nil && (e != api.ErrNone || l != nil || chain != nil) {
			t.Error(i, l, chain, e)
		}
		if one.schedule != nil && (e != api.OK || !slices.Equal(l, one.schedule) || !slices.Equal(chain, one.chain)) {
			t.Error(i, l, chain, e)
		}
	}
}

// TestAllSchedules compares Stuck with all schedules of few and short programs (P6.6).
func TestAllSchedules(t *testing.T) {
	r := newRandom()
	stuck := map[bool]int{}
	for range 3000 {
		things := 1 + r.IntN(3)
		programs := randomPrograms(r, things, 1+r.IntN(3), 4)
		want, found := stuckOf(programs)
		checkStuck(t, things, programs, want, found)
		stuck[found]++
	}
	if stuck[true] < 500 || stuck[false] < 500 {
		t.Error(stuck)
	}
}

// TestLongPrograms compares Stuck with schedules that are found in another way, for as many programs
// as can be, which are as long as can be (P6.6).
func TestLongPrograms(t *testing.T) {
	r := newRandom()
	lengths := map[int]int{}
	for range 400 {
		things := 2 + r.IntN(3)
		var programs [][]api.DockStep
		for range api.DockWho {
			programs = append(programs, orderlyProgram(r, things, r.IntN(4) == 0))
		}
		want, found := stuckLater(programs)
		checkStuck(t, things, programs, want, found)
		lengths[len(want)]++
	}
	if lengths[0] < 50 || len(lengths) < 8 {
		t.Error(lengths)
	}
}

// orderlyProgram returns a program that is about as long as can be, and has given back everything in
// the end. It takes only things with greater numbers than all that it has, if it is not mixed.
func orderlyProgram(r *rand.Rand, things int, mixed bool) []api.DockStep {
	var program []api.DockStep
	var has []int
	for len(program)+len(has) < api.DockSteps {
		thing := r.IntN(things)
		greatest := -1
		for _, one := range has {
			greatest = max(greatest, one)
		}
		switch {
		case thing > greatest || mixed && !slices.Contains(has, thing):
			if len(program)+len(has)+2 > api.DockSteps {
				return end(program, has)
			}
			program, has = append(program, take(thing)), append(has, thing)
		case slices.Contains(has, thing):
			program = append(program, free(thing))
			has = slices.DeleteFunc(has, func(one int) bool { return one == thing })
		}
	}
	return end(program, has)
}

// end returns a program that gives back what it has.
func end(program []api.DockStep, has []int) []api.DockStep {
	for _, thing := range has {
		program = append(program, free(thing))
	}
	return program
}

// TestNeverStuck checks P6.6: who takes things in their order, and gives them back, is never stuck.
func TestNeverStuck(t *testing.T) {
	r := newRandom()
	several := 0
	for i := range 1000 {
		things := 1 + r.IntN(api.DockThings)
		var programs [][]api.DockStep
		for range 1 + r.IntN(api.DockWho) {
			programs = append(programs, orderlyProgram(r, things, false))
			if len(programs[0]) > 2 && programs[0][1].Kind == api.DockTake {
				several++
			}
		}
		if l, chain, e := dock.Stuck(things, programs); e != api.ErrNone || l != nil || chain != nil {
			t.Fatal(i, programs, l, chain, e)
		}
	}
	if several < 500 {
		t.Error(several)
	}
}

// TestProgramsErrors checks the errors of P6.5 and P6.6.
func TestProgramsErrors(t *testing.T) {
	fails := func(i, things int, programs [][]api.DockStep, schedule []int, want api.Errno) {
		t.Helper()
		if has, done, at, e := dock.Run(things, programs, schedule); e != want || has != nil || done != nil || at != 0 {
			t.Error(i, has, done, at, e)
		}
		if len(schedule) > 0 {
			return
		}
		if l, chain, e := dock.Stuck(things, programs); e != want || l != nil || chain != nil {
			t.Error(i, l, chain, e)
		}
	}
	long := [][]api.DockStep{nil, make([]api.DockStep, 7)}
	for i, bad := range [][]api.DockStep{
		{take(0), take(0)}, {free(0)}, {take(0), free(1)}, {take(0), free(0), free(0)}, {take(0), take(1), take(0)}, {take(2)}, {take(-1)}, {take(4)},
		{{Kind: api.DockAsk}}, {{Kind: api.DockMove}}, {take(0), {Kind: api.DockAsk}}, {{}}, {{Kind: -1}}, {take(0), {Kind: 5}}, {free(-1)}, {take(1 << 62)},
	} {
		fails(i, 2, [][]api.DockStep{bad}, nil, api.ErrArg)
		fails(i, 2, append(examplePrograms(), bad), nil, api.ErrArg)
		fails(i, 2, append(examplePrograms(), bad), []int{0, 0, 1}, api.ErrArg)
		fails(i, 2, append(long, bad), nil, api.ErrLong)
		fails(i, 2, [][]api.DockStep{bad}, make([]int, 25), api.ErrLong)
	}
	for i, things := range []int{0, -1, 5, 1<<63 - 1, -1 << 63} {
		fails(i, things, examplePrograms(), nil, api.ErrArg)
		fails(i, things, [][]api.DockStep{nil}, nil, api.ErrArg)
		fails(i, things, long, nil, api.ErrLong)
	}
	fails(0, 2, nil, nil, api.ErrArg)
	fails(1, 2, make([][]api.DockStep, 5), nil, api.ErrArg)
	fails(2, 2, append(make([][]api.DockStep, 4), long...), nil, api.ErrLong)
	fails(3, 2, [][]api.DockStep{slices.Repeat([]api.DockStep{take(0), free(0)}, 4)}, nil, api.ErrLong)
	for i, bad := range []int{-1, 2, 4, 1<<63 - 1, -1 << 63} {
		fails(i, 2, examplePrograms(), []int{bad}, api.ErrArg)
		fails(i, 2, examplePrograms(), []int{0, 0, 1, bad}, api.ErrArg) // also behind a step that cannot be done
		fails(i, 2, examplePrograms(), slices.Repeat([]int{bad}, 25), api.ErrLong)
	}
	fails(4, 2, examplePrograms(), make([]int, 25), api.ErrLong)
	if _, done, at, e := dock.Run(2, examplePrograms(), make([]int, 24)); e != api.OK || at != 4 || !slices.Equal(done, []int{4, 0}) {
		t.Error(done, at, e)
	}
}
