package dock

import (
	"slices"

	"windsock/api"
)

// nobody is who has a thing that nobody has.
const nobody = -1

// holders is who has each thing.
type holders [api.DockThings]int

// newHolders returns who has each thing at first.
func newHolders() holders {
	var h holders
	for thing := range h {
		h[thing] = nobody
	}
	return h
}

func (h *holders) take(c api.DockCall) int {
	if h[c.Thing] != nobody {
		return 0
	}
	h[c.Thing] = c.Who
	return 1
}

func (h *holders) free(c api.DockCall) int {
	if h[c.Thing] != c.Who {
		return 0
	}
	h[c.Thing] = nobody
	return 1
}

func (h *holders) ask(c api.DockCall) int { return h[c.Thing] }

func (h *holders) move(c api.DockCall) int {
	if h[c.Thing] != c.Who || h[c.Other] != nobody {
		return 0
	}
	h[c.Thing], h[c.Other] = nobody, c.Who
	return 1
}

// deeds is what calls of each kind do, and their results.
type deeds map[api.DockKind]func(*holders, api.DockCall) int

func newDeeds() deeds {
	return deeds{
		api.DockTake: (*holders).take,
		api.DockFree: (*holders).free,
		api.DockAsk:  (*holders).ask,
		api.DockMove: (*holders).move,
	}
}

// history is calls, and what such calls do.
type history struct {
	calls []api.DockCall
	deeds deeds
}

// search is a history, the beginning of an order that explains it so far, and who has each thing
// behind that.
type search struct {
	history
	order []int
	has   holders
}

func newSearch(calls []api.DockCall) search {
	return search{history: history{calls, newDeeds()}, has: newHolders()}
}

// canBeNext reports whether a call can stand behind the beginning: it does not stand in it, and no
// other one that does not has ended before it begins.
func (s search) canBeNext(call int) bool {
	if !holds(span(0, len(s.calls)-1), call) || slices.Contains(s.order, call) {
		return false
	}
	for i, other := range s.calls {
		if other.End < s.calls[call].Begin && !slices.Contains(s.order, i) {
			return false
		}
	}
	return true
}

// with returns the search whose beginning goes on with a call, and whether it can.
func (s search) with(call int) (search, bool) {
	if !s.canBeNext(call) {
		return search{}, false
	}
	c := s.calls[call]
	s.order = slices.Concat(s.order, []int{call})
	result := s.deeds[c.Kind](&s.has, c)
	return s, result == c.Result
}

// finish returns the first order that goes on from the beginning, and whether there is any.
func (s search) finish() ([]int, bool) {
	if len(s.order) == len(s.calls) {
		return s.order, true
	}
	for call := range s.calls {
		next, can := s.with(call)
		if !can {
			continue
		}
		if order, found := next.finish(); found {
			return order, true
		}
	}
	return nil, false
}

// follows reports whether an order goes on from the beginning to its end.
func (s search) follows(order []int) bool {
	for _, call := range order {
		next, can := s.with(call)
		if !can {
			return false
		}
		s = next
	}
	return len(s.order) == len(s.calls)
}
