package dock

import (
	"slices"

	"windsock/api"
)

// state is how many steps each dispatcher has done, and who has each thing then.
type state struct {
	done [api.DockWho]int
	has  holders
}

// work is the programs of dispatchers, and what their steps do.
type work struct {
	programs [][]api.DockStep
	deeds    deeds
}

func newWork(programs [][]api.DockStep) work { return work{programs, newDeeds()} }

func (w work) start() state { return state{has: newHolders()} }

// next returns the next step of a dispatcher, and whether there is one.
func (w work) next(s state, who int) (api.DockStep, bool) {
	program := w.programs[who]
	if s.done[who] == len(program) {
		return api.DockStep{}, false
	}
	return program[s.done[who]], true
}

// do returns the state behind the next step of a dispatcher, and whether it can be done.
func (w work) do(s state, who int) (state, bool) {
	step, some := w.next(s, who)
	if !some {
		return state{}, false
	}
	s.done[who]++
	result := w.deeds[step.Kind](&s.has, api.DockCall{Who: who, Kind: step.Kind, Thing: step.Thing})
	return s, result == 1
}

// run returns the state behind a schedule and -1, or the state ahead of the first step that cannot
// be done, and its index.
func (w work) run(schedule []int) (state, int) {
	s := w.start()
	for i, who := range schedule {
		next, can := w.do(s, who)
		if !can {
			return s, i
		}
		s = next
	}
	return s, -1
}

func (w work) waits(s state, who int) bool {
	_, some := w.next(s, who)
	_, can := w.do(s, who)
	return some && !can
}

// firstWho returns the least dispatcher who is as asked, and whether there is one.
func (w work) firstWho(is func(who int) bool) (int, bool) {
	return first(numbers(len(w.programs)), is)
}

func (w work) isStuck(s state) bool {
	_, some := w.firstWho(func(who int) bool { return w.waits(s, who) })
	_, goesOn := w.firstWho(func(who int) bool { _, can := w.do(s, who); return can })
	return some && !goesOn
}

// queue gives back first what was put first.
type queue[T any] struct {
	list []T
}

func (q *queue[T]) put(one T) { q.list = append(q.list, one) }

func (q *queue[T]) take() (T, bool) {
	if len(q.list) == 0 {
		var none T
		return none, false
	}
	one := q.list[0]
	q.list = q.list[1:]
	return one, true
}

// reached is a state, and a schedule behind which it is.
type reached struct {
	state
	schedule []int
}

// stuck returns the first state in which the dispatchers are stuck, and whether there is one.
// States wait in the order of their best schedules: shorter ones first, then in lexicographic order.
func (w work) stuck() (reached, bool) {
	known := map[state]bool{}
	var waiting queue[reached]
	waiting.put(reached{state: w.start()})
	for r, some := waiting.take(); some; r, some = waiting.take() {
		if w.isStuck(r.state) {
			return r, true
		}
		for who := range w.programs {
			next, can := w.do(r.state, who)
			if can && !known[next] {
				known[next] = true
				waiting.put(reached{next, slices.Concat(r.schedule, []int{who})})
			}
		}
	}
	return reached{}, false
}

// chain returns the chain of dispatchers who are stuck.
func (w work) chain(s state) []int {
	who, _ := w.firstWho(func(who int) bool { return w.waits(s, who) })
	chain := []int{who}
	for {
		step, some := w.next(s, who)
		if !some {
			return chain
		}
		who = s.has[step.Thing]
		again := slices.Contains(chain, who)
		chain = append(chain, who)
		if again {
			return chain
		}
	}
}
