package dock

import "windsock/api"

// tally is how many jackets each dock has, and what is aboard each plane.
type tally struct {
	docks  []int
	aboard []api.DockBoard
}

// do does an event and returns true, or nothing and false if it is wrong.
func (t tally) do(c api.DockCount) bool {
	jackets, aboard := t.docks[c.Dock]-c.Jackets, t.aboard[c.Plane]
	aboard.People += c.People
	aboard.Jackets += c.Jackets
	// As many jackets as people, so fewer than no jackets are fewer than no people.
	if jackets < 0 || aboard.People < 0 || aboard.Jackets != aboard.People {
		return false
	}
	t.docks[c.Dock], t.aboard[c.Plane] = jackets, aboard
	return true
}
