package hop

import "windsock/api"

// stay is where a plane flies that stays.
const stay = -1

// where is a state that can be a key.
type where struct {
	planes [api.HopPlanes]int8
	legs   [api.HopPlanes]int8
	people [api.HopPeople]int8
}

func whereOf(s api.HopState) where {
	var at where
	for i, place := range s.Planes {
		at.planes[i], at.legs[i] = int8(place), int8(s.Legs[i])
	}
	for i, place := range s.People {
		at.people[i] = int8(place)
	}
	return at
}

// party is a set of people, as bits.
type party uint8

func (p party) has(person int) bool { return p>>person&1 == 1 }

// flight is a flight that can be compared.
type flight struct {
	to     int8
	people party
}

// unit is a unit that can be compared.
type unit [api.HopPlanes]flight

func unitOf(flights []api.HopFlight) unit {
	var u unit
	for i, f := range flights {
		u[i].to = int8(f.To)
		for _, person := range f.People {
			u[i].people |= 1 << person
		}
	}
	return u
}

// day is a day that is looked at, and between which places there is a link.
type day struct {
	api.HopDay
	joined [api.HopPlaces][api.HopPlaces]bool
}

func dayOf(d api.HopDay) *day {
	l := &day{HopDay: d}
	for _, link := range d.Links {
		l.joined[link.One][link.Other] = true
		l.joined[link.Other][link.One] = true
	}
	return l
}

// start returns the state at the beginning.
func (d *day) start() where {
	var at where
	for i, p := range d.Planes {
		at.planes[i] = int8(p.At)
	}
	for i, p := range d.People {
		at.people[i] = int8(p.At)
	}
	return at
}

func (d *day) stateOf(at where) api.HopState {
	var s api.HopState
	for i := range d.Planes {
		s.Planes = append(s.Planes, int(at.planes[i]))
		s.Legs = append(s.Legs, int(at.legs[i]))
	}
	for i := range d.People {
		s.People = append(s.People, int(at.people[i]))
	}
	return s
}

func (d *day) flightsOf(u unit) []api.HopFlight {
	var flights []api.HopFlight
	for i := range d.Planes {
		f := api.HopFlight{To: int(u[i].to)}
		for person := range d.People {
			if u[i].people.has(person) {
				f.People = append(f.People, person)
			}
		}
		flights = append(flights, f)
	}
	return flights
}

// behind returns where all are behind a unit that breaks no rule.
func (d *day) behind(at where, u unit) where {
	for plane := range d.Planes {
		f := u[plane]
		if f.to == stay {
			continue
		}
		at.planes[plane] = f.to
		at.legs[plane]++
		for person := range d.People {
			if f.people.has(person) {
				at.people[person] = f.to
			}
		}
	}
	return at
}

// roomy reports whether no place has more planes than berths.
func (d *day) roomy(at where) bool {
	for plane := range d.Planes {
		place, planes := at.planes[plane], 0
		for other := range d.Planes {
			if at.planes[other] == place {
				planes++
			}
		}
		if planes > d.Places[place].Berths {
			return false
		}
	}
	return true
}

// here returns the people who are where a plane is.
func (d *day) here(at where, plane int) party {
	var people party
	for person := range d.People {
		if at.people[person] == at.planes[plane] {
			people |= 1 << person
		}
	}
	return people
}

// seats returns how many seats people need.
func (d *day) seats(people party) int {
	sum := 0
	for person, p := range d.People {
		if people.has(person) {
			sum += p.Seats
		}
	}
	return sum
}

func (d *day) spent(at where, plane int) bool { return int(at.legs[plane]) >= d.Planes[plane].Duty }

func isOpen(open int, place int8) bool { return open>>place&1 == 1 }

// broken is why a unit is given up: a plane breaks a rule.
type broken struct {
	rule  api.HopRule
	plane int
}

// breaks returns the rule that a unit breaks, and the plane; HopFine and -1 if it breaks none.
func (d *day) breaks(at where, open int, u unit) (rule api.HopRule, plane int) {
	defer func() {
		if b, gaveUp := recover().(broken); gaveUp {
			rule, plane = b.rule, b.plane
		}
	}()
	var gone party
	for i := range d.Planes {
		l := &leaving{day: d, flight: u[i], at: at, open: open, plane: i, gone: gone}
		l.look()
		gone |= u[i].people
	}
	if !d.roomy(d.behind(at, u)) {
		panic(broken{api.HopBerth, -1})
	}
	return api.HopFine, -1
}

// leaving is a flight of a plane that is looked at, and who is gone with the planes before it.
type leaving struct {
	*day
	flight
	at    where
	open  int
	plane int
	gone  party
}

// look gives up at the first rule that the flight breaks. A plane that stays breaks none.
func (l *leaving) look() {
	if l.to == stay {
		return
	}
	for _, rule := range [...]func(){l.apart, l.shut, l.tired, l.missing, l.crammed} {
		rule()
	}
}

func (l *leaving) giveUpIf(isBroken bool, rule api.HopRule) {
	if isBroken {
		panic(broken{rule, l.plane})
	}
}

func (l *leaving) from() int8 { return l.at.planes[l.plane] }

func (l *leaving) apart() { l.giveUpIf(!l.joined[l.from()][l.to], api.HopLinked) }

func (l *leaving) shut() {
	l.giveUpIf(!isOpen(l.open, l.from()) || !isOpen(l.open, l.to), api.HopShut)
}

func (l *leaving) tired() { l.giveUpIf(l.spent(l.at, l.plane), api.HopTired) }

func (l *leaving) missing() {
	l.giveUpIf(l.people&^l.here(l.at, l.plane) != 0 || l.people&l.gone != 0, api.HopHere)
}

func (l *leaving) crammed() {
	l.giveUpIf(l.seats(l.people) > l.Planes[l.plane].Seats, api.HopSeated)
}
