package hop_test

import (
	"slices"
	"testing"

	"windsock/api"
	"windsock/hop"
)

// inWindow reports whether a minute is in a window of a stop.
func inWindow(s api.HopStop, minute int) bool {
	return slices.ContainsFunc(s.Windows, func(w api.Span) bool { return w.Low <= minute && minute <= w.High })
}

// goodMinutes returns, for each stop but the last one, which minutes are good, as the chapter
// defines it.
func goodMinutes(c api.HopChain) [][]bool {
	good := make([][]bool, len(c.Legs))
	for stop := len(c.Legs) - 1; stop >= 0; stop-- {
		good[stop] = make([]bool, api.HopDayLong+1)
		for minute := range good[stop] {
			good[stop][minute] = inWindow(c.Stops[stop], minute) && missOf(c, good, stop, minute) < 0
		}
	}
	return good
}

// missOf returns the least number of minutes with which a leg fails; -1 if it never does. The good
// minutes of the stops behind it are known.
func missOf(c api.HopChain, good [][]bool, stop, minute int) int {
	for d := c.Legs[stop].Low; d <= c.Legs[stop].High; d++ {
		if !inWindow(c.Stops[stop+1], minute+d) || stop+1 < len(good) && nextGood(good[stop+1], minute+d+c.Stops[stop+1].Turn) < 0 {
			return d
		}
	}
	return -1
}

// nextGood returns the first good minute from one on; -1 if there is none.
func nextGood(good []bool, from int) int {
	for minute := from; minute < len(good); minute++ {
		if good[minute] {
			return minute
		}
	}
	return -1
}

// spansOf returns minutes that are good as spans.
func spansOf(good []bool) []api.Span {
	var spans []api.Span
	for minute, is := range good {
		switch {
		case !is:
		case minute > 0 && good[minute-1]:
			spans[len(spans)-1].High = minute
		default:
			spans = append(spans, span(minute, minute))
		}
	}
	return spans
}

// twoStops returns a chain of two stops.
func twoStops(first, last []api.Span, leg api.Span) api.HopChain {
	return api.HopChain{Stops: []api.HopStop{{Windows: first}, {Windows: last}}, Legs: []api.Span{leg}}
}

func sameSpans(a, b [][]api.Span) bool { return slices.EqualFunc(a, b, slices.Equal) }

// withTurn returns the chain of the chapter with a turn of its middle stop.
func withTurn(minutes int) api.HopChain {
	c := exampleChain()
	c.Stops[1].Turn = minutes
	return c
}

// cutShort returns the chain of the chapter with a last stop that is shut too early.
func cutShort() api.HopChain {
	c := exampleChain()
	c.Stops[2].Windows = []api.Span{span(520, 549)}
	return c
}

// TestDepart checks P4.1 (Depart).
func TestDepart(t *testing.T) {
	whole, middle := []api.Span{span(0, 1440)}, []api.Span{span(500, 530), span(670, 700)}
	three := []api.Span{span(10, 20), span(22, 30), span(40, 40)}
	for i, one := range []struct {
		chain api.HopChain
		want  [][]api.Span
	}{
		{exampleChain(), [][]api.Span{{span(480, 520)}, middle}},
		// no good minute of the middle stop, so none of the first one
		{cutShort(), [][]api.Span{nil, nil}},
		// a turn that ends behind the first span, at the last good minute, and behind it
		{withTurn(41), [][]api.Span{{span(480, 520)}, middle}},
		{withTurn(180), [][]api.Span{{span(480, 480)}, middle}},
		{withTurn(181), [][]api.Span{nil, middle}},
		{withTurn(300), [][]api.Span{nil, middle}},
		// a window from which others are reached, and others that reach one
		{twoStops([]api.Span{span(0, 100)}, three, span(5, 5)), [][]api.Span{{span(5, 15), span(17, 25), span(35, 35)}}},
		{twoStops([]api.Span{span(0, 100)}, three, span(5, 6)), [][]api.Span{{span(5, 14), span(17, 24)}}},
		{twoStops([]api.Span{span(0, 6), span(8, 20)}, []api.Span{span(10, 20)}, span(5, 6)), [][]api.Span{{span(5, 6), span(8, 14)}}},
		// both bounds belong to windows, and to legs
		{twoStops([]api.Span{span(7, 7)}, []api.Span{span(9, 12)}, span(2, 5)), [][]api.Span{{span(7, 7)}}},
		{twoStops([]api.Span{span(7, 7)}, []api.Span{span(10, 12)}, span(2, 5)), [][]api.Span{nil}},
		{twoStops([]api.Span{span(7, 7)}, []api.Span{span(9, 11)}, span(2, 5)), [][]api.Span{nil}},
		{twoStops(whole, whole, span(0, 0)), [][]api.Span{whole}},
		{twoStops(whole, whole, span(0, 300)), [][]api.Span{{span(0, 1140)}}},
		{twoStops(whole, nil, span(0, 0)), [][]api.Span{nil}},
		{twoStops(nil, whole, span(0, 0)), [][]api.Span{nil}},
	} {
		if l, e := hop.Depart(one.chain); e != api.OK || !sameSpans(l, one.want) {
			t.Error(i, l, e)
		}
	}
}

// TestRide checks P4.1 (Ride).
func TestRide(t *testing.T) {
	for i, one := range []struct {
		chain  api.HopChain
		minute int
		legs   []int
		want   []int
		e      api.Errno
	}{
		{exampleChain(), 490, []int{35, 45}, []int{490, 525, 670, 715}, api.OK},
		{exampleChain(), 480, []int{30, 20}, []int{480, 510, 520, 540}, api.OK},
		{exampleChain(), 480, []int{40, 50}, []int{480, 520, 530, 580}, api.OK},
		{exampleChain(), 481, []int{40, 50}, []int{481, 521, 670, 720}, api.OK},
		{exampleChain(), 520, []int{40, 50}, []int{520, 560, 670, 720}, api.OK},
		{withTurn(180), 480, []int{40, 20}, []int{480, 520, 700, 720}, api.OK},
		{twoStops([]api.Span{span(7, 7)}, []api.Span{span(9, 12)}, span(2, 5)), 7, []int{4}, []int{7, 11}, api.OK},
		{exampleChain(), 521, []int{30, 20}, nil, api.ErrRule},
		{exampleChain(), 479, []int{30, 20}, nil, api.ErrRule},
		{exampleChain(), 0, []int{30, 20}, nil, api.ErrRule},
		{exampleChain(), 1440, []int{30, 20}, nil, api.ErrRule},
		{cutShort(), 480, []int{30, 20}, nil, api.ErrRule},
	} {
		if l, e := hop.Ride(one.chain, one.minute, one.legs); e != one.e || !slices.Equal(l, one.want) {
			t.Error(i, l, e)
		}
	}
}

// TestMiss checks P4.1 (Miss).
func TestMiss(t *testing.T) {
	three := twoStops([]api.Span{span(0, 100)}, []api.Span{span(10, 20), span(22, 30), span(40, 40)}, span(5, 6))
	for i, one := range []struct {
		chain              api.HopChain
		stop, minute, want int
		e                  api.Errno
	}{
		{exampleChain(), 0, 521, 40, api.OK},
		{exampleChain(), 0, 530, 31, api.OK},
		{exampleChain(), 0, 531, 30, api.OK},
		{exampleChain(), 0, 600, 30, api.OK},
		{exampleChain(), 0, 479, -1, api.OK},
		{exampleChain(), 0, 601, -1, api.OK},
		{exampleChain(), 1, 531, 50, api.OK},
		{exampleChain(), 1, 560, 21, api.OK},
		{exampleChain(), 1, 640, 20, api.OK},
		{exampleChain(), 1, 669, 20, api.OK},
		{exampleChain(), 1, 600, -1, api.OK},
		// in the window, but too late to go on
		{withTurn(181), 0, 480, 40, api.OK},
		{withTurn(190), 0, 480, 31, api.OK},
		{withTurn(191), 0, 480, 30, api.OK},
		{cutShort(), 0, 480, 30, api.OK},
		// what comes behind a minute outside does not matter
		{three, 0, 15, 6, api.OK},
		{three, 0, 16, 5, api.OK},
		{three, 0, 35, 6, api.OK},
		{three, 0, 0, 5, api.OK},
		{exampleChain(), 0, 480, 0, api.ErrState},
		{exampleChain(), 0, 520, 0, api.ErrState},
		{exampleChain(), 1, 700, 0, api.ErrState},
	} {
		if d, e := hop.Miss(one.chain, one.stop, one.minute); e != one.e || d != one.want {
			t.Error(i, d, e)
		}
	}
}

// TestSmallChains checks P4.1 against the definitions, minute by minute.
func TestSmallChains(t *testing.T) {
	r := newRandom()
	rides, misses, waits := 0, 0, 0
	for i := range 400 {
		c := smallChain(r)
		good := goodMinutes(c)
		l, e := hop.Depart(c)
		var want [][]api.Span
		for _, minutes := range good {
			want = append(want, spansOf(minutes))
		}
		if e != api.OK || !sameSpans(l, want) {
			t.Fatal(i, c, l, e, want)
		}
		for stop := range good {
			for minute := range 100 {
				d, e := hop.Miss(c, stop, minute)
				switch {
				case good[stop][minute]:
					if e != api.ErrState || d != 0 {
						t.Fatal(i, c, stop, minute, d, e)
					}
				case !inWindow(c.Stops[stop], minute):
					if e != api.OK || d != -1 {
						t.Fatal(i, c, stop, minute, d, e)
					}
				default:
					if e != api.OK || d != missOf(c, good, stop, minute) {
						t.Fatal(i, c, stop, minute, d, e)
					}
					misses++
				}
			}
		}
		for _, first := range l[0] {
			n, w := checkRides(t, c, good, first)
			rides += n
			waits += w
		}
	}
	if rides < 500 || misses < 500 || waits < 100 {
		t.Error(rides, misses, waits)
	}
}

// checkRides rides a chain from each minute of a span, with legs of all kinds. It returns how many
// rides there were, and how often one had to wait.
func checkRides(t *testing.T, c api.HopChain, good [][]bool, first api.Span) (int, int) {
	t.Helper()
	r := newRandom()
	rides, waits := 0, 0
	for minute := first.Low; minute <= first.High; minute++ {
		for kind := range 4 {
			var legs []int
			for _, leg := range c.Legs {
				legs = append(legs, [...]int{leg.Low, leg.High, within(r, leg), within(r, leg)}[kind])
			}
			want := []int{minute}
			for stop, leg := range legs {
				at := want[len(want)-1] + leg
				want = append(want, at)
				if !inWindow(c.Stops[stop+1], at) {
					t.Fatal(c, minute, legs, want)
				}
				if stop+1 < len(good) {
					ready := at + c.Stops[stop+1].Turn
					next := nextGood(good[stop+1], ready)
					if next > ready {
						waits++
					}
					want = append(want, next)
				}
			}
			if l, e := hop.Ride(c, minute, legs); e != api.OK || !slices.Equal(l, want) {
				t.Fatal(c, minute, legs, l, e, want)
			}
			rides++
		}
	}
	return rides, waits
}

// TestNobodyIsSaved checks P4.1 (Miss): who leaves at a minute that is not good fails, however long
// they wait later, if each leg takes what Miss says.
func TestNobodyIsSaved(t *testing.T) {
	r := newRandom()
	for i := range 200 {
		c := smallChain(r)
		last := len(c.Legs) - 1
		fails := make([][]bool, len(c.Legs))
		for stop := last; stop >= 0; stop-- {
			fails[stop] = make([]bool, api.HopDayLong+1)
			for minute := range fails[stop] {
				d, e := hop.Miss(c, stop, minute)
				if e == api.ErrState {
					continue
				}
				at := minute + d
				ready := min(at+c.Stops[stop+1].Turn, api.HopDayLong+1)
				fails[stop][minute] = d < 0 || !inWindow(c.Stops[stop+1], at) ||
					stop < last && !slices.Contains(fails[stop+1][ready:], false)
				if !fails[stop][minute] {
					t.Fatal(i, c, stop, minute, d, e)
				}
			}
		}
	}
}

// TestGreatChains checks P4.1 for chains and windows as many, and as late, as there can be.
func TestGreatChains(t *testing.T) {
	r := newRandom()
	some := 0
	for i := range 12 {
		var c api.HopChain
		for stop := range api.HopStops {
			var windows []api.Span
			for k := range api.HopWindows {
				low := 144*k + r.IntN(20)
				windows = append(windows, span(low, low+60+r.IntN(61)))
			}
			windows[api.HopWindows-1].High = api.HopDayLong
			c.Stops = append(c.Stops, api.HopStop{Windows: windows, Turn: r.IntN(20)})
			if stop > 0 {
				c.Legs = append(c.Legs, part(r, span(100, 180)))
			}
		}
		c.Legs[r.IntN(7)] = span(api.HopTurn, api.HopTurn)
		var want [][]api.Span
		for _, minutes := range goodMinutes(c) {
			want = append(want, spansOf(minutes))
		}
		l, e := hop.Depart(c)
		if e != api.OK || !sameSpans(l, want) {
			t.Fatal(i, c, l, e, want)
		}
		some += len(l[0])
	}
	if some == 0 {
		t.Error(some)
	}
}

// badChains returns chains that are not as defined.
func badChains() []api.HopChain {
	var bad []api.HopChain
	for _, change := range []func(*api.HopChain){
		func(c *api.HopChain) { c.Stops, c.Legs = nil, nil },
		func(c *api.HopChain) { c.Stops, c.Legs = c.Stops[:1], nil },
		func(c *api.HopChain) { c.Legs = c.Legs[1:] },
		func(c *api.HopChain) { c.Legs = append(c.Legs, span(1, 2)) },
		func(c *api.HopChain) {
			c.Stops = slices.Repeat(c.Stops[:1], api.HopStops+1)
			c.Legs = slices.Repeat(c.Legs[:1], api.HopStops)
		},
		func(c *api.HopChain) { c.Stops[1].Windows[1].Low = 561 },
		func(c *api.HopChain) { c.Stops[1].Windows[1].Low = 560 },
		func(c *api.HopChain) { slices.Reverse(c.Stops[1].Windows) },
		func(c *api.HopChain) { c.Stops[1].Windows[1] = span(700, 699) },
		func(c *api.HopChain) { c.Stops[0].Windows[0].Low = -1 },
		func(c *api.HopChain) { c.Stops[2].Windows[1].High = api.HopDayLong + 1 },
		func(c *api.HopChain) { c.Stops[2].Windows[1] = span(api.HopDayLong+1, api.HopDayLong+1) },
		func(c *api.HopChain) {
			c.Stops[0].Windows = nil
			for k := range api.HopWindows + 1 {
				c.Stops[0].Windows = append(c.Stops[0].Windows, span(10*k, 10*k))
			}
		},
		func(c *api.HopChain) { c.Stops[1].Turn = -1 },
		func(c *api.HopChain) { c.Stops[0].Turn = api.HopTurn + 1 },
		func(c *api.HopChain) { c.Legs[0] = span(-1, 40) },
		func(c *api.HopChain) { c.Legs[0] = span(30, 29) },
		func(c *api.HopChain) { c.Legs[1].High = api.HopTurn + 1 },
	} {
		c := exampleChain()
		change(&c)
		bad = append(bad, c)
	}
	return bad
}

// TestChainErrors checks the errors of P4.1.
func TestChainErrors(t *testing.T) {
	depart := func(i int, c api.HopChain, want api.Errno) {
		t.Helper()
		if l, e := hop.Depart(c); e != want || want != api.OK && l != nil {
			t.Error(i, l, e)
		}
	}
	ride := func(i int, c api.HopChain, minute int, legs ...int) {
		t.Helper()
		if l, e := hop.Ride(c, minute, legs); e != api.ErrArg || l != nil {
			t.Error(i, l, e)
		}
	}
	miss := func(i int, c api.HopChain, stop, minute int) {
		t.Helper()
		if d, e := hop.Miss(c, stop, minute); e != api.ErrArg || d != 0 {
			t.Error(i, d, e)
		}
	}
	for i, bad := range badChains() {
		depart(i, bad, api.ErrArg)
		ride(i, bad, 490, 35, 45)
		miss(i, bad, 0, 521)
	}
	c := exampleChain()
	for i, legs := range [][]int{nil, {35}, {35, 45, 45}, {29, 45}, {41, 45}, {35, 19}, {35, 51}} {
		ride(i, c, 490, legs...)
		ride(i, c, 0, legs...)
	}
	for i, minute := range []int{-1, api.HopDayLong + 1} {
		ride(i, c, minute, 35, 45)
		miss(i, c, 0, minute)
	}
	for i, stop := range []int{-1, 2, 3} {
		miss(i, c, stop, 500)
	}
	// windows with just one minute between them, and all that is at its limit
	c.Stops[1].Windows[1].Low = 562
	c.Stops[0].Turn, c.Legs[1] = api.HopTurn, span(0, api.HopTurn)
	c.Stops[2].Windows = []api.Span{span(0, 0), span(2, api.HopDayLong)}
	depart(0, c, api.OK)
}
