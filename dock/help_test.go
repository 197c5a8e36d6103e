package dock_test

import (
	"math/rand/v2"
	"slices"

	"windsock/api"
)

func span(low, high int) api.Span { return api.Span{Low: low, High: high} }

func holds(s api.Span, x int) bool { return s.Low <= x && x <= s.High }

// newRandom returns numbers that are the same in each run.
func newRandom() *rand.Rand { return rand.New(rand.NewPCG(66, 12)) }

// within returns a number of a span.
func within(r *rand.Rand, s api.Span) int { return s.Low + r.IntN(s.High-s.Low+1) }

// part returns a span within a span.
func part(r *rand.Rand, s api.Span) api.Span {
	low := within(r, s)
	return span(low, within(r, span(low, s.High)))
}

// exampleStays are the stays s of the chapter.
func exampleStays() []api.DockStay {
	return []api.DockStay{
		{Come: span(600, 620), Go: span(700, 710)},
		{Come: span(650, 660), Go: span(720, 730)},
		{Come: span(711, 715), Go: span(800, 800)},
		{Come: span(730, 740), Go: span(760, 765)},
	}
}

// exactStay returns a stay of which both minutes are known.
func exactStay(come, end int) api.DockStay {
	return api.DockStay{Come: span(come, come), Go: span(end, end)}
}

// randomStay returns a stay in the first minutes of a day.
func randomStay(r *rand.Rand, minutes int) api.DockStay {
	come := part(r, span(0, minutes))
	low := within(r, span(come.Low, minutes))
	return api.DockStay{Come: come, Go: span(low, within(r, span(max(low, come.High), minutes)))}
}

func randomStays(r *rand.Rand, count, minutes int) []api.DockStay {
	var stays []api.DockStay
	for range count {
		stays = append(stays, randomStay(r, minutes))
	}
	return stays
}

// exampleRopes are the ropes r of the chapter.
func exampleRopes() []api.DockRope {
	return []api.DockRope{{X: 10, Strength: 50}, {X: -10, Strength: 50}, {Y: 10, Strength: 30}, {Y: -10, Strength: 30}}
}

func windOf(x, y api.Span) api.DockWind { return api.DockWind{X: x, Y: y} }

// force returns a wind that is known.
func force(x, y int) api.DockWind { return windOf(span(x, x), span(y, y)) }

// exampleWind is the wind w of the chapter.
func exampleWind() api.DockWind { return windOf(span(-400, 400), span(-300, 300)) }

// greaterWind is the wind v of the chapter.
func greaterWind() api.DockWind { return windOf(span(-400, 400), span(-301, 300)) }

func randomRope(r *rand.Rand, aim, strength int) api.DockRope {
	for {
		x, y := within(r, span(-aim, aim)), within(r, span(-aim, aim))
		if x != 0 || y != 0 {
			return api.DockRope{X: x, Y: y, Strength: r.IntN(strength + 1)}
		}
	}
}

// randomRopes returns ropes. In some lists, all ropes are along one line.
func randomRopes(r *rand.Rand, count, aim, strength int) []api.DockRope {
	var ropes []api.DockRope
	line := r.IntN(6) == 0
	for range count {
		rope := randomRope(r, aim, strength)
		if line && len(ropes) > 0 {
			times := 1 - 2*r.IntN(2)
			rope.X, rope.Y = times*ropes[0].X, times*ropes[0].Y
		}
		ropes = append(ropes, rope)
	}
	return ropes
}

func randomWind(r *rand.Rand, most int) api.DockWind {
	return windOf(part(r, span(-most, most)), part(r, span(-most, most)))
}

// randomMooring returns ropes and a wind with small numbers, so that forces are often at the border
// of what the ropes hold.
func randomMooring(r *rand.Rand, most int) ([]api.DockRope, api.DockWind) {
	return randomRopes(r, r.IntN(most+1), 3, 4), randomWind(r, r.IntN(6))
}

// randomGreatMooring returns as many ropes as can be, and a wind, with great numbers.
func randomGreatMooring(r *rand.Rand) ([]api.DockRope, api.DockWind) {
	strength := 1000 + r.IntN(20000)
	if r.IntN(4) == 0 {
		strength = api.DockStrength
	}
	return randomRopes(r, api.DockRopes, api.DockAim, strength), randomWind(r, api.DockForce)
}

func call(who int, kind api.DockKind, thing, begin, end, result int) api.DockCall {
	return api.DockCall{Who: who, Kind: kind, Thing: thing, Begin: begin, End: end, Result: result}
}

func move(who, thing, other, begin, end, result int) api.DockCall {
	return api.DockCall{Who: who, Kind: api.DockMove, Thing: thing, Other: other, Begin: begin, End: end, Result: result}
}

// exampleCalls are the history h of the chapter.
func exampleCalls() []api.DockCall {
	return []api.DockCall{call(0, api.DockTake, 0, 1, 4, 0), call(1, api.DockTake, 0, 2, 3, 1), call(0, api.DockAsk, 0, 5, 6, 1)}
}

// mooring is who has each thing that somebody has.
type mooring map[int]int

func (m mooring) holder(thing int) int {
	if who, is := m[thing]; is {
		return who
	}
	return -1
}

// do does a call, and returns its result.
func (m mooring) do(c api.DockCall) int {
	mine, free, otherFree := m.holder(c.Thing) == c.Who, m.holder(c.Thing) == -1, m.holder(c.Other) == -1
	switch {
	case c.Kind == api.DockAsk:
		return m.holder(c.Thing)
	case c.Kind == api.DockTake && free:
		m[c.Thing] = c.Who
	case c.Kind == api.DockFree && mine:
		delete(m, c.Thing)
	case c.Kind == api.DockMove && mine && otherFree:
		delete(m, c.Thing)
		m[c.Other] = c.Who
	default:
		return 0
	}
	return 1
}

func randomCall(r *rand.Rand, things int) api.DockCall {
	c := api.DockCall{Who: r.IntN(api.DockWho), Kind: api.DockKind(1 + r.IntN(4)), Thing: r.IntN(things)}
	if r.IntN(2) == 0 {
		c.Who = 0
	}
	if c.Kind == api.DockMove && things == 1 {
		c.Kind = api.DockTake
	}
	if c.Kind == api.DockMove {
		c.Other = (c.Thing + 1 + r.IntN(things-1)) % things
	}
	return c
}

// randomCalls returns calls with the results that they have in an order that they can have happened
// in, but for some results or times that are changed. They are not in this order.
func randomCalls(r *rand.Rand, things, count, wide, changes int) []api.DockCall {
	m := mooring{}
	var calls []api.DockCall
	for i := range count {
		c := randomCall(r, things)
		c.Result = m.do(c)
		moment := 100 + 10*i
		c.Begin, c.End = moment-r.IntN(wide), moment+1+r.IntN(wide)
		calls = append(calls, c)
	}
	for range changes {
		c := &calls[r.IntN(count)]
		if r.IntN(2) == 0 {
			c.Result = within(r, span(-1, 3))
		} else {
			c.Begin, c.End = c.Begin+50, c.End+50
		}
	}
	r.Shuffle(count, func(i, j int) { calls[i], calls[j] = calls[j], calls[i] })
	return calls
}

func take(thing int) api.DockStep { return api.DockStep{Kind: api.DockTake, Thing: thing} }

func free(thing int) api.DockStep { return api.DockStep{Kind: api.DockFree, Thing: thing} }

// examplePrograms are the programs p of the chapter.
func examplePrograms() [][]api.DockStep {
	return [][]api.DockStep{{take(0), take(1), free(1), free(0)}, {take(1), take(0), free(0), free(1)}}
}

func copyOfPrograms(programs [][]api.DockStep) [][]api.DockStep {
	programs = slices.Clone(programs)
	for who := range programs {
		programs[who] = slices.Clone(programs[who])
	}
	return programs
}

// randomProgram returns a program that takes a thing in about oneOf - 1 of oneOf steps in which it can.
func randomProgram(r *rand.Rand, things, steps, oneOf int) []api.DockStep {
	var program []api.DockStep
	var has, not []int
	for thing := range things {
		not = append(not, thing)
	}
	for range steps {
		if len(has) == 0 || len(not) > 0 && r.IntN(oneOf) > 0 {
			i := r.IntN(len(not))
			program, has, not = append(program, take(not[i])), append(has, not[i]), slices.Delete(not, i, i+1)
		} else {
			i := r.IntN(len(has))
			program, not, has = append(program, free(has[i])), append(not, has[i]), slices.Delete(has, i, i+1)
		}
	}
	return program
}

func randomPrograms(r *rand.Rand, things, who, steps int) [][]api.DockStep {
	var programs [][]api.DockStep
	for range who {
		programs = append(programs, randomProgram(r, things, r.IntN(steps+1), 2+r.IntN(3)))
	}
	return programs
}

// anyNumber returns a number that is far out of range, or near a limit.
func anyNumber(r *rand.Rand, limit int) int {
	numbers := []int{-1 << 63, -1<<63 + 1, -limit - 1, -limit, -1, 0, 1, 2, limit - 1, limit, limit + 1, 1<<63 - 2, 1<<63 - 1}
	return numbers[r.IntN(len(numbers))]
}
