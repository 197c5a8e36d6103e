package hop

import (
	"slices"

	"windsock/api"
)

// together puts the spans together that are made of each of some things with each of others,
// but for those that hold nothing.
func together[A, B any](some []A, others []B, made func(A, B) api.Span) []api.Span {
	var spans []api.Span
	for _, a := range some {
		for _, b := range others {
			if s := made(a, b); s.Low <= s.High {
				spans = append(spans, s)
			}
		}
	}
	return spans
}

// common returns the numbers that both of two spans hold.
func common(a, b api.Span) api.Span { return span(max(a.Low, b.Low), min(a.High, b.High)) }

func inSome(spans []api.Span, x int) bool {
	return slices.ContainsFunc(spans, func(s api.Span) bool { return holds(s, x) })
}

// chain is a chain that is looked at, and the good minutes of its stops but the last one.
type chain struct {
	api.HopChain
	good [][]api.Span
}

// chainOf finds the good minutes of a chain that is as defined. Between two windows there is a
// minute that is in none, so all landings of a minute are in one window, and the spans that are
// put together do not touch.
func chainOf(c api.HopChain) *chain {
	l := &chain{c, make([][]api.Span, len(c.Legs))}
	for stop, leg := range slices.Backward(c.Legs) {
		l.good[stop] = together(c.Stops[stop].Windows, l.landings(stop+1), func(window, landing api.Span) api.Span {
			return common(window, span(landing.Low-leg.Low, landing.High-leg.High))
		})
	}
	return l
}

// landings returns the minutes at which one may come to a stop: those of its windows at which it
// is not too late to go on.
func (c *chain) landings(stop int) []api.Span {
	windows := c.Stops[stop].Windows
	if stop == len(c.good) {
		return windows
	}
	good := c.good[stop]
	last := good[max(0, len(good)-1):]
	return together(windows, last, func(window, last api.Span) api.Span {
		return common(window, span(0, last.High-c.Stops[stop].Turn))
	})
}

// miss returns the least number of minutes with which the leg from a stop fails. The minute is
// one in a window that is not good.
func (c *chain) miss(stop, minute int) int {
	least := c.Legs[stop].Low
	for _, landing := range c.landings(stop + 1) {
		if holds(landing, minute+least) {
			return landing.High + 1 - minute
		}
	}
	return least
}

// ride returns the minutes of a ride from a good minute on.
func (c *chain) ride(minute int, legs []int) []int {
	minutes := []int{minute}
	for stop, leg := range legs {
		minute += leg
		minutes = append(minutes, minute)
		if next := stop + 1; next < len(legs) {
			minute = c.start(next, minute+c.Stops[next].Turn)
			minutes = append(minutes, minute)
		}
	}
	return minutes
}

// start returns the first good minute of a stop from a minute on, which there is.
func (c *chain) start(stop, minute int) int {
	at := slices.IndexFunc(c.good[stop], func(good api.Span) bool { return good.High >= minute })
	return max(minute, c.good[stop][at].Low)
}
