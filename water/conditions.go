package water

import (
	"sort"

	"windsock/api"
)

// steps are the steps of the directions: towards the east and towards the north.
var steps = [...][2]int{{0, 1}, {1, 1}, {1, 0}, {1, -1}, {0, -1}, {-1, -1}, {-1, 0}, {-1, 1}}

func step(way api.Compass) (int, int) {
	s := steps[way-api.WaterN]
	return s[0], s[1]
}

// cellOf returns the x and y of a cell of a strip.
func cellOf(p api.Strip, i int) (int, int) {
	dx, dy := step(p.Way)
	return p.X + i*dx, p.Y + i*dy
}

// room judges condition 1: some run is free of boats and deep enough. All cells are at their
// worst, or at their best, in one truth, so a run is what the worst of its cells is.
func (l *look) room(m moment) verdict {
	for _, v := range [...]verdict{surely, perhaps} {
		if l.firstRun(m, v) >= 0 {
			return v
		}
	}
	return never
}

// firstRun returns the offset of the first run all of whose cells have a verdict, or a better
// one; -1 if there is none.
func (l *look) firstRun(m moment, least verdict) int {
	good := 0
	for i := range l.strip.Cells {
		if l.cell(m, i) < least {
			good = 0
			continue
		}
		good++
		if good == l.need.Run {
			return i + 1 - good
		}
	}
	return -1
}

func (l *look) cell(m moment, i int) verdict {
	x, y := cellOf(l.strip, i)
	return min(l.depth(m, x, y), l.free(m, x, y))
}

func (l *look) depth(m moment, x, y int) verdict {
	depth := l.Depths[y*l.Wide+x]
	switch {
	case depth.Low+m.tide.Low >= l.need.Draught:
		return surely
	case depth.High+m.tide.High >= l.need.Draught:
		return perhaps
	}
	return never
}

func (l *look) free(m moment, x, y int) verdict {
	free := surely
	for _, b := range l.Boats {
		switch {
		case !holds(b.X, x) || !holds(b.Y, y) || !holds(b.Times, m.minute):
		case b.Sure:
			return never
		default:
			free = perhaps
		}
	}
	return free
}

// wind judges condition 2. Both parts of it are broken by a corner of the bounds, if they are
// broken by any wind within.
func (l *look) wind(m moment) verdict {
	all := true
	for _, east := range [...]int{m.east.Low, m.east.High} {
		for _, north := range [...]int{m.north.Low, m.north.High} {
			all = all && l.fair(east, north)
		}
	}
	switch {
	case all:
		return surely
	case l.fair(l.mildest(m)):
		return perhaps
	}
	return never
}

// fair reports whether a wind is not too strong.
func (l *look) fair(east, north int) bool {
	dx, dy := step(l.strip.Way)
	n := dx*dx + dy*dy
	across, along := east*dy-north*dx, east*dx+north*dy
	return across*across <= n*l.need.Cross*l.need.Cross &&
		(along <= 0 || along*along <= n*l.need.Tail*l.need.Tail)
}

// mildest returns a wind of a moment that is fair if any is: of those that are not too strong
// across, the one that blows least from behind.
func (l *look) mildest(m moment) (int, int) {
	dx, dy := step(l.strip.Way)
	switch {
	case dx == 0:
		return nearest(m.east, 0), lowEnd(m.north, dy)
	case dy == 0:
		return lowEnd(m.east, dx), nearest(m.north, 0)
	}
	// On a diagonal both parts blow along it, and their difference blows across: both are as
	// little as they can be, but the lesser one comes up to what may blow across.
	east, north := dx*lowEnd(m.east, dx), dy*lowEnd(m.north, dy)
	across := l.mostAcross()
	return nearest(m.east, dx*max(east, north-across)), nearest(m.north, dy*max(north, east-across))
}

// mostAcross returns the greatest number that may blow across a diagonal.
func (l *look) mostAcross() int {
	square := 2 * l.need.Cross * l.need.Cross
	return sort.Search(2*l.need.Cross, func(x int) bool { return (x+1)*(x+1) > square })
}

// nearest returns the number of a span that is nearest to another number.
func nearest(s api.Span, x int) int { return min(max(s.Low, x), s.High) }

// lowEnd returns the number of a span that is least if it is multiplied by 1 or -1.
func lowEnd(s api.Span, sign int) int {
	if sign < 0 {
		return s.High
	}
	return s.Low
}

// waves judges condition 3.
func (l *look) waves(m moment) verdict {
	return min(among(m.wave, span(l.need.Calm, l.need.Wave)), among(m.swell, span(-api.WaterValue, l.need.Swell)))
}

// among returns whether a number of a span is in another span.
func among(s, other api.Span) verdict {
	switch {
	case spanFine(s, other):
		return surely
	case s.Low <= other.High && other.Low <= s.High:
		return perhaps
	}
	return never
}

// sight judges condition 4.
func (l *look) sight(m moment) verdict {
	for _, g := range l.Glares {
		if holds(g.Times, m.minute) && near(g.Way, l.strip.Way) {
			return never
		}
	}
	return surely
}

// near reports whether a direction is another one, or beside it.
func near(one, other api.Compass) bool {
	apart := distance(int(one), int(other))
	return apart <= 1 || apart == len(steps)-1
}
