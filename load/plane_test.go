package load_test

import (
	"math"
	"slices"
	"testing"

	"windsock/api"
	"windsock/load"
)

// badPlanes returns planes that are not as defined, each for one reason.
func badPlanes() []api.Plane {
	changes := []func(*api.Plane){
		func(p *api.Plane) { p.Empty = 0 },
		func(p *api.Plane) { p.Empty = api.LoadKilos + 1 },
		func(p *api.Plane) { p.Empty = math.MinInt },
		func(p *api.Plane) { p.Moment = -api.LoadMoment - 1 },
		func(p *api.Plane) { p.Moment = api.LoadMoment + 1 },
		func(p *api.Plane) { p.Takeoff = -1 },
		func(p *api.Plane) { p.Takeoff = api.LoadKilos + 1 },
		func(p *api.Plane) { p.Landing = -1 },
		func(p *api.Plane) { p.Landing = math.MaxInt },
		func(p *api.Plane) { p.Reserve = -1 },
		func(p *api.Plane) { p.Reserve = api.LoadKilos + 1 },
		func(p *api.Plane) { p.Tank.Arm = api.LoadArm + 1 },
		func(p *api.Plane) { p.Tank.Arm = -api.LoadArm - 1 },
		func(p *api.Plane) { p.Tank.Most = -1 },
		func(p *api.Plane) { p.Tank.Most = api.LoadKilos + 1 },
		func(p *api.Plane) { p.Stations[0].Arm = api.LoadArm + 1 },
		func(p *api.Plane) { p.Stations[1].Arm = -api.LoadArm - 1 },
		func(p *api.Plane) { p.Stations[1].Most = -1 },
		func(p *api.Plane) { p.Stations[0].Most = api.LoadKilos + 1 },
		func(p *api.Plane) { p.Stations = slices.Repeat(p.Stations[:1], api.LoadStations+1) },
		func(p *api.Plane) { p.Floats[0].Arm = -api.LoadArm - 1 },
		func(p *api.Plane) { p.Floats[1].Arm = api.LoadArm + 1 },
		func(p *api.Plane) { p.Floats[0].Most = -1 },
		func(p *api.Plane) { p.Floats[1].Most = api.LoadKilos + 1 },
		func(p *api.Plane) { p.Floats = slices.Repeat(p.Floats[:1], api.LoadFloats+1) },
		func(p *api.Plane) { p.Corners = nil },
		func(p *api.Plane) { p.Corners = p.Corners[:2] },
		func(p *api.Plane) { p.Corners = round(api.LoadCorners + 1) },
		func(p *api.Plane) { p.Corners[0].Weight = -1 },
		func(p *api.Plane) { p.Corners[1].Weight, p.Corners[2].Weight = api.LoadKilos+1, api.LoadKilos+1 },
		func(p *api.Plane) { p.Corners[0].Moment = -api.LoadMoment - 1 },
		func(p *api.Plane) { p.Corners[2].Moment = api.LoadMoment + 1 },
		func(p *api.Plane) { slices.Reverse(p.Corners) },
		func(p *api.Plane) { p.Corners[0], p.Corners[1] = p.Corners[1], p.Corners[0] },
		func(p *api.Plane) { p.Corners[1] = p.Corners[0] },
		func(p *api.Plane) { p.Corners[2] = p.Corners[0] },
		func(p *api.Plane) { p.Corners[2] = api.LoadCorner{Weight: 1400, Moment: 140000} },
		func(p *api.Plane) {
			p.Corners = slices.Insert(p.Corners, 1, api.LoadCorner{Weight: 1500, Moment: 142500})
		},
		func(p *api.Plane) {
			p.Corners = append(p.Corners, api.LoadCorner{Weight: 1000, Moment: 105000})
		},
		func(p *api.Plane) {
			p.Corners = []api.LoadCorner{{Weight: 1, Moment: 1}, {Weight: 2, Moment: 2}, {Weight: 3, Moment: 3}}
		},
		// all corners but the next one lie well: a star
		func(p *api.Plane) {
			five := round(5)
			p.Corners = []api.LoadCorner{five[0], five[2], five[4], five[1], five[3]}
		},
		// twice around
		func(p *api.Plane) { p.Corners = slices.Repeat(p.Corners, 2) },
	}
	var planes []api.Plane
	for _, change := range changes {
		p := examplePlane()
		change(&p)
		planes = append(planes, p)
	}
	return planes
}

// round returns so many corners of a convex envelope, counterclockwise.
func round(count int) []api.LoadCorner {
	var corners []api.LoadCorner
	for i := range count {
		corners = append(corners, api.LoadCorner{Weight: i, Moment: i * i})
	}
	return corners
}

// TestCheck checks P2.1 (Check): each limit, and 1 beyond it.
func TestCheck(t *testing.T) {
	const kilos, moment, arm = api.LoadKilos, api.LoadMoment, api.LoadArm
	ends := []api.LoadStation{{Arm: -arm, Most: 0}, {Arm: arm, Most: kilos}}
	for i, change := range []func(*api.Plane){
		func(*api.Plane) {},
		func(p *api.Plane) { p.Empty, p.Moment = 1, -moment },
		func(p *api.Plane) { p.Empty, p.Moment = kilos, moment },
		func(p *api.Plane) { p.Takeoff, p.Landing, p.Reserve = 0, 0, 0 },
		func(p *api.Plane) { p.Takeoff, p.Landing, p.Reserve = kilos, kilos, kilos },
		func(p *api.Plane) { p.Takeoff, p.Landing = 1, 2 },
		func(p *api.Plane) { p.Tank = ends[0] },
		func(p *api.Plane) { p.Tank = ends[1] },
		func(p *api.Plane) { p.Stations, p.Floats = ends, ends },
		func(p *api.Plane) { p.Stations, p.Floats = nil, nil },
		func(p *api.Plane) { p.Stations = slices.Repeat(ends, api.LoadStations/2) },
		func(p *api.Plane) { p.Corners = p.Corners[:3] },
		func(p *api.Plane) { p.Corners = append(p.Corners[2:], p.Corners[:2]...) },
		func(p *api.Plane) { p.Corners = round(api.LoadCorners) },
		func(p *api.Plane) { p.Corners = round(5) },
		func(p *api.Plane) { p.Corners = widePlane().Corners },
	} {
		p := examplePlane()
		change(&p)
		if e := load.Check(p); e != api.OK {
			t.Error(i, e)
		}
	}
	for i, p := range badPlanes() {
		if e := load.Check(p); e != api.ErrArg {
			t.Error(i, e)
		}
	}
	if e := load.Check(api.Plane{}); e != api.ErrArg {
		t.Error(e)
	}
}

// TestCheckOfManyCorners checks P2.1 (Check): that the side of each corner matters at each edge.
func TestCheckOfManyCorners(t *testing.T) {
	r := newRandom()
	fine, not := 0, 0
	for range 3000 {
		p := examplePlane()
		p.Corners = smallCorners(r)
		if r.IntN(3) > 0 {
			p.Corners[r.IntN(len(p.Corners))] = api.LoadCorner{Weight: r.IntN(50), Moment: r.IntN(161) - 80}
		}
		want := api.OK
		for i := range p.Corners {
			next := (i + 1) % len(p.Corners)
			for k, c := range p.Corners {
				if k != i && k != next && turn(p.Corners[i], p.Corners[next], c) <= 0 {
					want = api.ErrArg
				}
			}
		}
		if want == api.OK {
			fine++
		} else {
			not++
		}
		if e := load.Check(p); e != want {
			t.Fatal(p.Corners, e)
		}
	}
	if fine < 300 || not < 300 {
		t.Error(fine, not)
	}
}

// TestInside checks P2.1 (Inside): at the edges and corners of the chapter's plane, and beside them.
func TestInside(t *testing.T) {
	for _, x := range []struct {
		weight, moment int
		want           bool
	}{
		{1500, 142500, true}, {1500, 142499, false}, {1500, 172500, true}, {1500, 172501, false}, {1500, 160000, true},
		{1000, 95000, true}, {1000, 94999, false}, {1000, 115000, true}, {1000, 115001, false}, {999, 100000, false}, {1000, 100000, true},
		{2000, 190000, true}, {2000, 189999, false}, {2000, 230000, true}, {2000, 230001, false}, {2001, 200000, false}, {2000, 200000, true},
		{0, 0, false}, {-1500, -142500, false}, {800000, 800000000, false}, {-800000, -800000000, false}, {800000, -800000000, false},
	} {
		if is, e := load.Inside(examplePlane(), x.weight, x.moment); e != api.OK || is != x.want {
			t.Error(x, is, e)
		}
	}
	for _, x := range [][2]int{{800001, 0}, {-800001, 0}, {0, 800000001}, {0, -800000001}, {math.MinInt, math.MaxInt}, {math.MaxInt, math.MinInt}} {
		if is, e := load.Inside(examplePlane(), x[0], x[1]); e != api.ErrArg || is {
			t.Error(x, is, e)
		}
	}
	for i, p := range badPlanes() {
		if is, e := load.Inside(p, 1500, 150000); e != api.ErrArg || is {
			t.Error(i, is, e)
		}
	}
}

// TestInsideSmall checks P2.1 (Inside), cell by cell, and that there is nothing hollow.
func TestInsideSmall(t *testing.T) {
	r := newRandom()
	for range 60 {
		p := smallPlane(r)
		var found []api.LoadCorner
		for weight := -1; weight <= 50; weight++ {
			for moment := -81; moment <= 81; moment++ {
				want := true
				for i, from := range p.Corners {
					want = want && turn(from, p.Corners[(i+1)%len(p.Corners)], api.LoadCorner{Weight: weight, Moment: moment}) >= 0
				}
				is, e := load.Inside(p, weight, moment)
				if e != api.OK || is != want {
					t.Fatal(p.Corners, weight, moment, is, e)
				}
				if is {
					found = append(found, api.LoadCorner{Weight: weight, Moment: moment})
				}
			}
		}
		for _, c := range p.Corners {
			if !slices.Contains(found, c) {
				t.Fatal(p.Corners, c)
			}
		}
		for range 100 {
			one, other := found[r.IntN(len(found))], found[r.IntN(len(found))]
			weight, moment := one.Weight+other.Weight, one.Moment+other.Moment
			if weight%2 != 0 || moment%2 != 0 {
				continue
			}
			if is, _ := load.Inside(p, weight/2, moment/2); !is {
				t.Fatal(p.Corners, one, other)
			}
		}
	}
}
