package watch

import (
	"slices"

	"windsock/api"
)

// followed is a watch that is followed up to a minute, and the messages that are known in it.
type followed struct {
	api.Watch
	last  int
	known []api.Message
}

func follow(w api.Watch, l []api.Message, last int) *followed {
	known := slices.DeleteFunc(slices.Clone(l), func(m api.Message) bool { return m.Came > last })
	return &followed{w, last, known}
}

func (f *followed) contact() int {
	minute := f.Minute
	for _, m := range f.known {
		minute = max(minute, m.Minute)
	}
	return minute
}

func (f *followed) stage() int {
	if slices.ContainsFunc(f.known, func(m api.Message) bool { return m.Down }) {
		return 0
	}
	overdue, stage := f.last-f.contact()-f.Every, 0
	for _, minutes := range f.After {
		if minutes <= overdue {
			stage++
		}
	}
	return stage
}

// calls returns the calls of a watch up to a minute.
func calls(w api.Watch, l []api.Message, until int) []api.WatchCall {
	var all []api.WatchCall
	before := 0
	for minute := w.Minute; minute <= until; minute++ {
		now := follow(w, l, minute).stage()
		for stage := before + 1; stage <= now; stage++ {
			all = append(all, api.WatchCall{Minute: minute, Stage: stage})
		}
		before = now
	}
	return all
}

// sends reports whether the flight sends in a minute, unless it is down.
func (f *followed) sends(minute int) bool {
	return minute > f.Minute && (minute-f.Minute)%f.Every == 0
}

// told reports whether there is a message of a cell and a minute.
func (f *followed) told(cell, minute int) bool {
	return slices.ContainsFunc(f.known, func(m api.Message) bool { return m.Cell == cell && m.Minute == minute })
}
