package hop

import (
	"iter"
	"math"

	"windsock/api"
)

// search is a day whose best policy is looked for: what it costs in the end, and all parties in
// their order.
type search struct {
	*day
	end     *ends
	parties []party
}

func searchOf(d api.HopDay) *search {
	s := &search{day: dayOf(d)}
	s.end = s.costs()
	s.parties = s.partiesWith(0, 0)
	return s
}

// partiesWith returns a party, and all that it becomes with people from one of them on, in
// lexicographic order.
func (s *search) partiesWith(people party, person int) []party {
	parties := []party{people}
	for next := person; next < len(s.People); next++ {
		parties = append(parties, s.partiesWith(people|1<<next, next+1)...)
	}
	return parties
}

// flights returns the flights of a plane that break no rule, in their order.
func (s *search) flights(at where, open, plane int, gone party) iter.Seq[flight] {
	return func(yield func(flight) bool) {
		from := at.planes[plane]
		if !yield(flight{to: stay}) || s.spent(at, plane) || !isOpen(open, from) {
			return
		}
		here := s.here(at, plane) &^ gone
		for to := range int8(len(s.Places)) {
			if !s.joined[from][to] || !isOpen(open, to) {
				continue
			}
			for _, people := range s.parties {
				fits := people&^here == 0 && s.seats(people) <= s.Planes[plane].Seats
				if fits && !yield(flight{to, people}) {
					return
				}
			}
		}
	}
}

// units returns the units that break no rule, in their order, and the states behind them.
func (s *search) units(at where, open int) iter.Seq2[unit, where] {
	return func(yield func(unit, where) bool) {
		var u unit
		var choose func(plane int, gone party) bool
		choose = func(plane int, gone party) bool {
			if plane == len(s.Planes) {
				behind := s.behind(at, u)
				return !s.roomy(behind) || yield(u, behind)
			}
			for f := range s.flights(at, open, plane, gone) {
				u[plane] = f
				if !choose(plane+1, gone|f.people) {
					return false
				}
			}
			return true
		}
		choose(0, 0)
	}
}

// best returns the best unit of a fork, and the least cost from a state on.
func (s *search) best(f *fork, at where) choice {
	if c, seen := f.known[at]; seen {
		return c
	}
	best := choice{cost: math.MaxInt}
	hope := f.hope(at)
	for u, behind := range s.units(at, f.open) {
		if cost := s.cost(f.next, s.settled(behind, f.slot+1), best.cost); cost < best.cost {
			best = choice{u, cost}
		}
		if best.cost == hope {
			break
		}
	}
	f.known[at] = best
	return best
}

// cost returns the least cost from a state on, ahead of a slot with some forks. Where it is not
// below a limit, it is only told that it is not.
func (s *search) cost(forks []*fork, at where, limit int) int {
	if len(forks) == 0 {
		return s.end.of(at)
	}
	most := 0
	for _, f := range forks {
		most = max(most, f.hope(at))
	}
	for _, f := range forks {
		if most >= limit {
			break
		}
		most = max(most, s.best(f, at).cost)
	}
	return most
}

// settled returns a state in which legs count as flown for which too few slots are left, so that
// states which differ in nothing else are looked at once.
func (s *search) settled(at where, slot int) where {
	for i, p := range s.Planes {
		at.legs[i] = max(at.legs[i], int8(p.Duty-(s.slots()-slot)))
	}
	return at
}

// policy returns the best policy and its cost.
func (s *search) policy() ([][][]api.HopFlight, int) {
	policy := make([][][]api.HopFlight, len(s.Weathers))
	var all []int
	for weather := range s.Weathers {
		all = append(all, weather)
	}
	forks, at := s.forks(all, 0), s.settled(s.start(), 0)
	s.follow(forks, at, policy)
	return policy, s.cost(forks, at, math.MaxInt)
}

// follow puts what is best in some forks, from a state on, behind the units of a policy.
func (s *search) follow(forks []*fork, at where, policy [][][]api.HopFlight) {
	for _, f := range forks {
		u := s.best(f, at).unit
		for _, weather := range f.weathers {
			policy[weather] = append(policy[weather], s.flightsOf(u))
		}
		s.follow(f.next, s.settled(s.behind(at, u), f.slot+1), policy)
	}
}
