package watch_test

import (
	"math/rand/v2"
	"slices"

	"windsock/api"
)

func span(low, high int) api.Span { return api.Span{Low: low, High: high} }

func holds(s api.Span, x int) bool { return s.Low <= x && x <= s.High }

// newRandom returns numbers that are the same in each run.
func newRandom() *rand.Rand { return rand.New(rand.NewPCG(55, 11)) }

// within returns a number of a span.
func within(r *rand.Rand, s api.Span) int { return s.Low + r.IntN(s.High-s.Low+1) }

// part returns a span within a span.
func part(r *rand.Rand, s api.Span) api.Span {
	low := within(r, s)
	return span(low, within(r, span(low, s.High)))
}

// always is open all day.
func always() []api.Span { return []api.Span{span(0, api.WatchDay)} }

// openSky returns a sky in which some cells are shut.
func openSky(wide, deep int, shut ...int) api.Sky {
	s := api.Sky{Wide: wide, Deep: deep, Shut: make([]bool, wide*deep)}
	for _, cell := range shut {
		s.Shut[cell] = true
	}
	return s
}

// exampleSky is the sky s of the chapter.
func exampleSky() api.Sky { return openSky(4, 2, 5) }

// exampleWatch is the watch w of the chapter.
func exampleWatch() api.Watch {
	return api.Watch{
		Sky: exampleSky(),
		Net: api.Net{
			Relays: []api.Relay{{Cell: 0, Range: 0, Open: always()}, {Cell: 3, Range: 1, Open: always()}},
			Links:  []api.Link{{From: 1, To: 0, Delay: 2, Open: []api.Span{span(20, 30), span(100, 110)}}},
		},
		Cell: 0, Minute: 10, Every: 5, Endure: 60, After: []int{3, 10},
	}
}

// deafWatch returns the watch of the chapter with stations that never hear.
func deafWatch() api.Watch {
	w := exampleWatch()
	for i := range w.Relays {
		w.Relays[i].Open = nil
	}
	return w
}

func copyOfSky(s api.Sky) api.Sky {
	s.Shut = slices.Clone(s.Shut)
	return s
}

func copyOfWatch(w api.Watch) api.Watch {
	w.Sky = copyOfSky(w.Sky)
	w.Relays, w.Links, w.After = slices.Clone(w.Relays), slices.Clone(w.Links), slices.Clone(w.After)
	for i := range w.Relays {
		w.Relays[i].Open = slices.Clone(w.Relays[i].Open)
	}
	for i := range w.Links {
		w.Links[i].Open = slices.Clone(w.Links[i].Open)
	}
	return w
}

// said returns a message of an aircraft that was not down.
func said(minute, cell, came int) api.Message {
	return api.Message{Minute: minute, Cell: cell, Came: came}
}

// saidDown returns a message of an aircraft that was down.
func saidDown(minute, cell, came int) api.Message {
	return api.Message{Minute: minute, Cell: cell, Down: true, Came: came}
}

// over returns places that are not down.
func over(cells ...int) []api.Place {
	var places []api.Place
	for _, cell := range cells {
		places = append(places, api.Place{Cell: cell})
	}
	return places
}

// ended returns a course that goes on for some minutes in a cell, down.
func ended(course []api.Place, cell, minutes int) []api.Place {
	return append(slices.Clone(course), slices.Repeat([]api.Place{{Cell: cell, Down: true}}, minutes)...)
}

// randomSky returns a sky of which some cells are shut, but not all.
func randomSky(r *rand.Rand, wide, deep int) api.Sky {
	s := openSky(wide, deep)
	oneOf := 2 + r.IntN(4)
	for cell := range s.Shut {
		s.Shut[cell] = r.IntN(oneOf) == 0
	}
	s.Shut[r.IntN(len(s.Shut))] = false
	return s
}

// randomFree returns a free cell of a sky that has one.
func randomFree(r *rand.Rand, s api.Sky) int {
	for {
		if cell := r.IntN(len(s.Shut)); !s.Shut[cell] {
			return cell
		}
	}
}

// sizes are how much of each there is at most in a watch that is made at random: cells in a row,
// rows, stations, links, and the minutes that matter.
type sizes struct {
	wide, deep, stations, links, minutes int
}

// randomOpen returns spans in some minutes from one on, in any order.
func randomOpen(r *rand.Rand, from, minutes int) []api.Span {
	if r.IntN(4) == 0 {
		return always()
	}
	var open []api.Span
	for range r.IntN(4) {
		open = append(open, part(r, span(from, min(api.WatchDay, from+minutes))))
	}
	return open
}

func randomNet(r *rand.Rand, s api.Sky, from int, most sizes) api.Net {
	var n api.Net
	for range 1 + r.IntN(most.stations) {
		relay := api.Relay{Cell: r.IntN(len(s.Shut)), Range: r.IntN(3) * r.IntN(2), Open: randomOpen(r, from, most.minutes)}
		n.Relays = append(n.Relays, relay)
	}
	for len(n.Relays) > 1 && len(n.Links) < most.links && r.IntN(12) > 0 {
		stations := r.Perm(len(n.Relays))
		link := api.Link{From: stations[0], To: stations[1], Delay: r.IntN(4), Open: randomOpen(r, from, most.minutes)}
		n.Links = append(n.Links, link)
	}
	return n
}

// randomWatch returns a watch. Some begin so late that not all that matters fits into the day.
func randomWatch(r *rand.Rand, most sizes) api.Watch {
	s := randomSky(r, 1+r.IntN(most.wide), 1+r.IntN(most.deep))
	minute := r.IntN(20)
	if r.IntN(4) == 0 {
		minute = api.WatchDay - r.IntN(most.minutes)
	}
	w := api.Watch{Sky: s, Net: randomNet(r, s, minute, most), Cell: randomFree(r, s), Minute: minute, Every: 1 + r.IntN(4), Endure: 1 + r.IntN(most.minutes)}
	for after := r.IntN(3); len(w.After) < api.WatchStages && r.IntN(4) > 0; after += 1 + r.IntN(4) {
		w.After = append(w.After, after)
	}
	return w
}

// end returns the last minute of those that matter.
func end(w api.Watch, most sizes) int { return min(api.WatchDay, w.Minute+most.minutes) }

// randomMail returns messages of the minutes of a watch up to one, whether they can be true or not.
func randomMail(r *rand.Rand, w api.Watch, last, count int) []api.Message {
	var l []api.Message
	for range count {
		minute := within(r, span(w.Minute, last))
		came := within(r, span(minute, min(api.WatchDay, minute+4)))
		l = append(l, api.Message{Minute: minute, Cell: randomFree(r, w.Sky), Down: r.IntN(4) == 0, Came: came})
	}
	return l
}

// knownOf returns the messages that are known in a minute.
func knownOf(l []api.Message, now int) []api.Message {
	var known []api.Message
	for _, m := range l {
		if m.Came <= now {
			known = append(known, m)
		}
	}
	return known
}

// apart returns the distance of two cells.
func apart(s api.Sky, one, other int) int {
	abs := func(x int) int { return max(x, -x) }
	return max(abs(one%s.Wide-other%s.Wide), abs(one/s.Wide-other/s.Wide))
}

// nextTo returns the free neighbours of a cell, in increasing order.
func nextTo(s api.Sky, cell int) []int {
	var cells []int
	for other, shut := range s.Shut {
		if !shut && apart(s, cell, other) == 1 {
			cells = append(cells, other)
		}
	}
	return cells
}

// stepsFrom returns how many steps each free cell is away from a cell; -1 for those to which one
// cannot go.
func stepsFrom(s api.Sky, from int) []int {
	steps := slices.Repeat([]int{-1}, len(s.Shut))
	steps[from] = 0
	for far := range s.Shut {
		for cell := range s.Shut {
			if steps[cell] != far {
				continue
			}
			for _, other := range nextTo(s, cell) {
				if steps[other] < 0 {
					steps[other] = far + 1
				}
			}
		}
	}
	return steps
}

// cellsWithin returns the cells that are at most so many steps away.
func cellsWithin(s api.Sky, from, most int) []int {
	var cells []int
	for cell, steps := range stepsFrom(s, from) {
		if holds(span(0, most), steps) {
			cells = append(cells, cell)
		}
	}
	return cells
}

// isOpen reports whether a minute lies in one of some spans.
func isOpen(open []api.Span, minute int) bool {
	return slices.ContainsFunc(open, func(s api.Span) bool { return holds(s, minute) })
}

// firstOpen returns the first minute from one on that lies in one of some spans; -1 if none does.
func firstOpen(open []api.Span, minute int) int {
	last := -1
	for _, s := range open {
		last = max(last, s.High)
	}
	for ; minute <= last; minute++ {
		if isOpen(open, minute) {
			return minute
		}
	}
	return -1
}

// handed returns when what is at a station in a minute is at another one, by a link between them;
// -1 if it does not come there.
func handed(n api.Net, from, to, minute int) int {
	arrives := -1
	for _, l := range n.Links {
		first := firstOpen(l.Open, minute)
		if l.From != from || l.To != to || first < 0 || first+l.Delay > api.WatchDay {
			continue
		}
		if arrives < 0 || first+l.Delay < arrives {
			arrives = first + l.Delay
		}
	}
	return arrives
}

// alongOf returns when what is sent from a cell in a minute arrives by a list of stations; -1 if
// this is no route, or it does not arrive.
func alongOf(w api.Watch, cell, minute int, stations []int) int {
	if len(stations) == 0 || slices.Index(stations, 0) != len(stations)-1 {
		return -1
	}
	first := w.Relays[stations[0]]
	if apart(w.Sky, first.Cell, cell) > first.Range || !isOpen(first.Open, minute) {
		return -1
	}
	for i := 1; i < len(stations) && minute >= 0; i++ {
		minute = handed(w.Net, stations[i-1], stations[i], minute)
	}
	return minute
}

// listsOf returns all lists of at most so many stations of a net that end with the desk, without
// others after it, the shortest ones first, then in lexicographic order.
func listsOf(n api.Net, most int) [][]int {
	lists, longest := [][]int{}, [][]int{nil}
	for range most {
		for _, list := range longest {
			lists = append(lists, append(slices.Clone(list), 0))
		}
		var longer [][]int
		for _, list := range longest {
			for station := 1; station < len(n.Relays); station++ {
				longer = append(longer, append(slices.Clone(list), station))
			}
		}
		longest = longer
	}
	return lists
}

// routeOf returns the best one of some routes, which are in their order, and when it arrives; -1
// if none does.
func routeOf(w api.Watch, cell, minute int, lists [][]int) (int, []int) {
	arrives, best := -1, []int(nil)
	for _, list := range lists {
		if at := alongOf(w, cell, minute, list); at >= 0 && (arrives < 0 || at < arrives) {
			arrives, best = at, list
		}
	}
	return arrives, best
}

// heard tells when what is sent in a watch arrives, and keeps what it has told.
type heard struct {
	w     api.Watch
	lists [][]int
	known map[[2]int]int
}

func newHeard(w api.Watch) *heard {
	return &heard{w, listsOf(w.Net, len(w.Relays)), map[[2]int]int{}}
}

func (h *heard) arrives(cell, minute int) int {
	key := [2]int{cell, minute}
	if _, is := h.known[key]; !is {
		h.known[key], _ = routeOf(h.w, cell, minute, h.lists)
	}
	return h.known[key]
}

// isCourse reports whether places are a course.
func isCourse(w api.Watch, course []api.Place) bool {
	flying := 0
	for i, place := range course {
		if !place.Down {
			flying++
		}
		if i == 0 {
			if place != (api.Place{Cell: w.Cell}) {
				return false
			}
			continue
		}
		before := course[i-1]
		same := place.Cell == before.Cell
		if before.Down && place != before || place.Down && !same || !same && !slices.Contains(nextTo(w.Sky, before.Cell), place.Cell) {
			return false
		}
	}
	return len(course) > 0 && flying <= w.Endure+1 && w.Minute+len(course)-1 <= api.WatchDay
}

// isTrue reports whether messages and silence agree with a course.
func (h *heard) isTrue(l []api.Message, course []api.Place) bool {
	last := h.w.Minute + len(course) - 1
	known := knownOf(l, last)
	for _, m := range known {
		if course[m.Minute-h.w.Minute] != (api.Place{Cell: m.Cell, Down: m.Down}) {
			return false
		}
	}
	for i := h.w.Every; i < len(course); i += h.w.Every {
		place, minute := course[i], h.w.Minute+i
		if place.Down || !holds(span(0, last), h.arrives(place.Cell, minute)) {
			continue
		}
		if !slices.ContainsFunc(known, func(m api.Message) bool { return m.Minute == minute && m.Cell == place.Cell }) {
			return false
		}
	}
	return true
}

// longer returns the courses that go on for a minute more than a course.
func longer(w api.Watch, course []api.Place) [][]api.Place {
	var all [][]api.Place
	for cell := range w.Shut {
		for _, down := range []bool{false, true} {
			if next := append(slices.Clone(course), api.Place{Cell: cell, Down: down}); isCourse(w, next) {
				all = append(all, next)
			}
		}
	}
	return all
}

// coursesOf returns all courses up to a minute.
func coursesOf(w api.Watch, last int) [][]api.Place {
	all := [][]api.Place{{{Cell: w.Cell}}}
	for minute := w.Minute; minute < last; minute++ {
		var next [][]api.Place
		for _, course := range all {
			next = append(next, longer(w, course)...)
		}
		all = next
	}
	return all
}

// randomCourse returns a course up to a minute. It comes down when it must, or before, in about one
// of so many minutes.
func randomCourse(r *rand.Rand, w api.Watch, last, oneOf int) []api.Place {
	course := []api.Place{{Cell: w.Cell}}
	for len(course) <= last-w.Minute {
		at := course[len(course)-1]
		cells := append(nextTo(w.Sky, at.Cell), at.Cell)
		switch {
		case at.Down:
		case len(course) > w.Endure || r.IntN(oneOf) == 0:
			at.Down = true
		default:
			at.Cell = cells[r.IntN(len(cells))]
		}
		course = append(course, at)
	}
	return course
}

// trueMail returns messages that are true of a course, with all those that the silence asks for,
// and some more.
func (h *heard) trueMail(r *rand.Rand, course []api.Place, more int) []api.Message {
	var l []api.Message
	for i := h.w.Every; i < len(course); i += h.w.Every {
		minute := h.w.Minute + i
		if came := h.arrives(course[i].Cell, minute); came >= 0 && !course[i].Down {
			l = append(l, said(minute, course[i].Cell, came))
		}
	}
	for range more {
		i := r.IntN(len(course))
		minute := h.w.Minute + i
		came := within(r, span(minute, min(api.WatchDay, minute+6)))
		l = append(l, api.Message{Minute: minute, Cell: course[i].Cell, Down: course[i].Down, Came: came})
	}
	r.Shuffle(len(l), func(i, j int) { l[i], l[j] = l[j], l[i] })
	return l[:min(len(l), api.WatchMail)]
}

// badSkies returns skies that are not as defined.
func badSkies() []api.Sky {
	return []api.Sky{
		{}, {Wide: 1, Deep: 1}, {Wide: 1, Deep: 1, Shut: make([]bool, 2)}, {Wide: 0, Deep: 1}, {Wide: 1, Deep: 0},
		{Wide: -1, Deep: -1, Shut: make([]bool, 1)}, {Wide: 13, Deep: 1, Shut: make([]bool, 13)}, {Wide: 1, Deep: 13, Shut: make([]bool, 13)},
		{Wide: 1 << 32, Deep: 1 << 32}, {Wide: 2, Deep: 2, Shut: make([]bool, 3)},
	}
}

// badOpen returns spans that are not those in which something can be open.
func badOpen() [][]api.Span {
	return [][]api.Span{
		{span(2, 1)}, {span(-1, 5)}, {span(0, 1441)}, {span(1441, 1441)}, {span(-2, -1)}, {span(3, 9), span(9, 8)},
		slices.Repeat([]api.Span{span(3, 5)}, api.WatchOpen+1),
	}
}

// changed returns watches, each of them that of the chapter with one change.
func changed(changes ...func(w *api.Watch)) []api.Watch {
	var watches []api.Watch
	for _, change := range changes {
		w := exampleWatch()
		change(&w)
		watches = append(watches, w)
	}
	return watches
}

// badWatches returns watches that are not as defined.
func badWatches() []api.Watch {
	watches := changed(
		func(w *api.Watch) { w.Relays = nil },
		func(w *api.Watch) { w.Relays, w.Links = slices.Repeat(w.Relays[:1], 9), nil },
		func(w *api.Watch) { w.Relays[0].Cell = -1 },
		func(w *api.Watch) { w.Relays[1].Cell = 8 },
		func(w *api.Watch) { w.Relays[0].Range = -1 },
		func(w *api.Watch) { w.Relays[1].Range = 13 },
		func(w *api.Watch) { w.Links = slices.Repeat(w.Links, 21) },
		func(w *api.Watch) { w.Links[0].From = -1 },
		func(w *api.Watch) { w.Links[0].From = 2 },
		func(w *api.Watch) { w.Links[0].From = 0 },
		func(w *api.Watch) { w.Links[0].To = -1 },
		func(w *api.Watch) { w.Links[0].To = 2 },
		func(w *api.Watch) { w.Links[0].To = 1 },
		func(w *api.Watch) { w.Links[0].Delay = -1 },
		func(w *api.Watch) { w.Links[0].Delay = 1441 },
		func(w *api.Watch) { w.Cell = -1 },
		func(w *api.Watch) { w.Cell = 8 },
		func(w *api.Watch) { w.Cell = 5 },
		func(w *api.Watch) { w.Minute = -1 },
		func(w *api.Watch) { w.Minute = 1441 },
		func(w *api.Watch) { w.Every = 0 },
		func(w *api.Watch) { w.Every = 1441 },
		func(w *api.Watch) { w.Endure = 0 },
		func(w *api.Watch) { w.Endure = 1441 },
		func(w *api.Watch) { w.After = []int{-1} },
		func(w *api.Watch) { w.After = []int{1441} },
		func(w *api.Watch) { w.After = []int{3, 3} },
		func(w *api.Watch) { w.After = []int{4, 3} },
		func(w *api.Watch) { w.After = []int{0, 1, 2, 3, 4, 5, 6, 7, 8} },
	)
	for _, s := range badSkies() {
		watches = append(watches, changed(func(w *api.Watch) { w.Sky = s })...)
	}
	for _, open := range badOpen() {
		watches = append(watches, changed(func(w *api.Watch) { w.Relays[1].Open = open }, func(w *api.Watch) { w.Links[0].Open = open })...)
	}
	return watches
}

// badMail returns messages that are none of the watch of the chapter.
func badMail() []api.Message {
	return []api.Message{
		said(9, 0, 20), said(-1, 0, 20), said(20, 0, 19), said(1441, 0, 1441), said(20, 0, 1441),
		said(20, -1, 20), said(20, 8, 20), said(20, 5, 20), saidDown(20, 5, 20),
	}
}
