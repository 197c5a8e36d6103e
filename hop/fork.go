package hop

import (
	"slices"

	"windsock/api"
)

// fork is the weathers that look alike until a slot: what is open in it, what is hoped for in
// each of them, the forks of the next slot, and what is known of the states ahead of this one.
type fork struct {
	slot     int
	open     int
	weathers []int
	hopes    []*ends
	next     []*fork
	known    map[where]choice
}

// choice is the best unit, and the cost that it leads to.
type choice struct {
	unit unit
	cost int
}

func (s *search) slots() int { return len(s.Weathers[0]) }

// forks returns the forks of a slot into which weathers go that look alike until it.
func (s *search) forks(weathers []int, slot int) []*fork {
	if slot == s.slots() {
		return nil
	}
	var forks []*fork
	for _, weather := range weathers {
		if alike := s.alike(weather, slot); alike[0] == weather {
			forks = append(forks, s.fork(alike, slot))
		}
	}
	return forks
}

func (s *search) fork(weathers []int, slot int) *fork {
	f := &fork{slot: slot, open: s.Weathers[weathers[0]][slot], weathers: weathers, known: map[where]choice{}}
	for _, weather := range weathers {
		f.hopes = append(f.hopes, s.hope(s.Weathers[weather][slot:]))
	}
	f.next = s.forks(weathers, slot+1)
	return f
}

// hope returns what each plane and person costs at least, by the place where they are ahead of
// some slots, even if each of them goes wherever the weather and the links allow it.
func (s *search) hope(slots []int) *ends {
	hope := *s.end
	for _, open := range slices.Backward(slots) {
		for i, costs := range hope.planes {
			hope.planes[i] = s.ahead(costs, open)
		}
		for i, costs := range hope.people {
			hope.people[i] = s.ahead(costs, open)
		}
	}
	return &hope
}

// ahead returns the least costs by place ahead of a slot, of those behind it.
func (s *search) ahead(behind [api.HopPlaces]int, open int) [api.HopPlaces]int {
	least := behind
	for from := range int8(len(s.Places)) {
		for to := range int8(len(s.Places)) {
			if s.joined[from][to] && isOpen(open, from) && isOpen(open, to) {
				least[from] = min(least[from], behind[to])
			}
		}
	}
	return least
}

// hope returns what a state costs at least in the worst weather of the fork.
func (f *fork) hope(at where) int {
	most := 0
	for _, hope := range f.hopes {
		most = max(most, hope.of(at))
	}
	return most
}
