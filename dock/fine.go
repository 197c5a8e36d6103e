package dock

import "windsock/api"

// The functions of this file report whether something is as the chapter defines it.

func span(low, high int) api.Span { return api.Span{Low: low, High: high} }

func holds(s api.Span, x int) bool { return s.Low <= x && x <= s.High }

// within reports whether a span is one within another one.
func within(s, outer api.Span) bool {
	return outer.Low <= s.Low && s.Low <= s.High && s.High <= outer.High
}

// all reports whether all of a list are as asked.
func all[T any](list []T, is func(T) bool) bool {
	for _, one := range list {
		if !is(one) {
			return false
		}
	}
	return true
}

func stayFine(s api.DockStay) bool {
	day := span(0, api.DockMinutes)
	return within(s.Come, day) && within(s.Go, day) && s.Come.Low <= s.Go.Low && s.Come.High <= s.Go.High
}

func staysError(stays []api.DockStay, berths int) api.Errno {
	switch {
	case len(stays) > api.DockStays:
		return api.ErrLong
	case !all(stays, stayFine), !holds(span(0, api.DockBerths), berths):
		return api.ErrArg
	}
	return api.OK
}

func ropeFine(r api.DockRope) bool {
	aim := span(-api.DockAim, api.DockAim)
	return holds(aim, r.X) && holds(aim, r.Y) && (r.X != 0 || r.Y != 0) && holds(span(0, api.DockStrength), r.Strength)
}

func windFine(w api.DockWind) bool {
	force := span(-api.DockForce, api.DockForce)
	return within(w.X, force) && within(w.Y, force)
}

func ropesError(ropes []api.DockRope, wind api.DockWind) api.Errno {
	switch {
	case len(ropes) > api.DockRopes:
		return api.ErrLong
	case !all(ropes, ropeFine), !windFine(wind):
		return api.ErrArg
	}
	return api.OK
}

func thingsFine(things int) bool { return holds(span(1, api.DockThings), things) }

func isThing(things, thing int) bool { return holds(span(0, things-1), thing) }

func otherFine(things int, c api.DockCall) bool {
	if c.Kind == api.DockMove {
		return isThing(things, c.Other) && c.Other != c.Thing
	}
	return c.Other == 0
}

func callFine(things int, c api.DockCall) bool {
	time := span(0, api.DockTime)
	return holds(span(0, api.DockWho-1), c.Who) && holds(span(int(api.DockTake), int(api.DockMove)), int(c.Kind)) &&
		isThing(things, c.Thing) && otherFine(things, c) && holds(time, c.Begin) && holds(time, c.End) && c.Begin < c.End &&
		holds(span(nobody, api.DockWho-1), c.Result)
}

func callsError(things int, calls []api.DockCall) api.Errno {
	switch {
	case len(calls) > api.DockCalls:
		return api.ErrLong
	case !thingsFine(things), !all(calls, func(c api.DockCall) bool { return callFine(things, c) }):
		return api.ErrArg
	}
	return api.OK
}

// programFine reports whether a program takes only what it has not, and gives back only what it has.
func programFine(things int, program []api.DockStep) bool {
	var has [api.DockThings]bool
	for _, s := range program {
		takes := s.Kind == api.DockTake
		if !takes && s.Kind != api.DockFree || !isThing(things, s.Thing) || has[s.Thing] == takes {
			return false
		}
		has[s.Thing] = takes
	}
	return true
}

func programsError(things int, programs [][]api.DockStep) api.Errno {
	return scheduleError(things, programs, nil)
}

func scheduleError(things int, programs [][]api.DockStep, schedule []int) api.Errno {
	short := func(program []api.DockStep) bool { return len(program) <= api.DockSteps }
	fine := func(program []api.DockStep) bool { return programFine(things, program) }
	works := func(who int) bool { return holds(span(0, len(programs)-1), who) }
	switch {
	case !all(programs, short), len(schedule) > api.DockWho*api.DockSteps:
		return api.ErrLong
	case !thingsFine(things), !holds(span(1, api.DockWho), len(programs)), !all(programs, fine), !all(schedule, works):
		return api.ErrArg
	}
	return api.OK
}

func eventsError(docks []int, planes int, events []api.DockCount) api.Errno {
	many := func(jackets int) bool { return holds(span(0, api.DockMany), jackets) }
	change := span(-api.DockMany, api.DockMany)
	fine := func(c api.DockCount) bool {
		return holds(span(0, len(docks)-1), c.Dock) && holds(span(0, planes-1), c.Plane) && holds(change, c.People) && holds(change, c.Jackets)
	}
	switch {
	case len(events) > api.DockEvents:
		return api.ErrLong
	case !holds(span(1, api.DockDocks), len(docks)), !all(docks, many), !holds(span(0, api.DockPlanes), planes), !all(events, fine):
		return api.ErrArg
	}
	return api.OK
}
