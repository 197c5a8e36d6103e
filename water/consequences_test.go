package water_test

import (
	"math"
	"math/rand/v2"
	"reflect"
	"testing"

	"windsock/api"
	"windsock/water"
)

// TestReadingMoreNeverWidens checks P1.8: a reading more.
func TestReadingMoreNeverWidens(t *testing.T) {
	r := newRandom()
	for i := range 200 {
		g := api.Gauge{Rate: r.IntN(4), Least: -r.IntN(100), Most: r.IntN(100)}
		course := randomCourse(r, g)
		g.Readings = readingsOf(r, course, r.IntN(10), 20)
		before, _ := water.Bounds(g)
		g.Readings = append(g.Readings, readingsOf(r, course, 1, 20)...)
		after, e := water.Bounds(g)
		if e != api.OK {
			t.Fatal(i, e)
		}
		for minute, s := range after {
			if s.Low < before[minute].Low || s.High > before[minute].High {
				t.Fatal(i, minute, s, before[minute])
			}
		}
	}
}

// lesser returns needs that ask for less, each of one number.
func lesser(n api.Need) []api.Need {
	var needs []api.Need
	for _, change := range []func(*api.Need){
		func(n *api.Need) { n.Draught = max(0, n.Draught-1) },
		func(n *api.Need) { n.Run = max(1, n.Run-1) },
		func(n *api.Need) { n.Cross++ },
		func(n *api.Need) { n.Tail++ },
		func(n *api.Need) { n.Calm = max(0, n.Calm-1) },
		func(n *api.Need) { n.Wave++ },
		func(n *api.Need) { n.Swell++ },
	} {
		less := n
		change(&less)
		needs = append(needs, less)
	}
	return needs
}

// betterKnown returns seas without one of the boats, and seas of which more is known.
func betterKnown(r *rand.Rand, s api.Sea) []api.Sea {
	var seas []api.Sea
	for i := range s.Boats {
		c := copyOf(s)
		c.Boats = append(c.Boats[:i], c.Boats[i+1:]...)
		seas = append(seas, c)
	}
	for i := range gaugesOf(&s.Weather) {
		c := copyOf(s)
		g := gaugesOf(&c.Weather)[i]
		if len(g.Readings) > 0 {
			value := &g.Readings[0].Value
			*value = part(r, *value, 2)
			seas = append(seas, c)
		}
		c = copyOf(s)
		g = gaugesOf(&c.Weather)[i]
		minute := r.IntN(api.WaterDay + 1)
		low, high, _ := sweep(*g)
		g.Readings = append(g.Readings, api.Reading{Minute: minute, Value: part(r, span(low[minute], high[minute]), 2)})
		seas = append(seas, c)
	}
	return seas
}

// TestLessIsNeverLessSure checks P1.8: a need for less, a boat less, more that is known.
func TestLessIsNeverLessSure(t *testing.T) {
	r := newRandom()
	sure := 0
	for range 3000 {
		s := smallSea(r)
		p, n, minute := smallStrip(r, s.Chart), smallNeed(r), r.IntN(api.WaterDay+1)
		if _, e := water.Sure(s, p, n, minute); e != api.OK {
			continue
		}
		sure++
		for i, less := range lesser(n) {
			if _, e := water.Sure(s, p, less, minute); e != api.OK {
				t.Fatal("need", i, n, e)
			}
		}
		for i, better := range betterKnown(r, s) {
			if _, e := water.Sure(better, p, n, minute); e != api.OK && e != api.ErrNone {
				t.Fatal("sea", i, e)
			}
		}
	}
	if sure < 100 {
		t.Error(sure)
	}
}

// TestArgumentsAreKept checks the rule R4.
func TestArgumentsAreKept(t *testing.T) {
	s := exampleSea()
	s.Tide.Readings = []api.Reading{{Minute: 60, Value: span(52, 58), Source: 1}, {Minute: 10, Value: span(52, 58), Source: 0}}
	c := copyOf(s)
	truth := exampleTruth()
	strips := []api.Strip{exampleStrip(), exampleStrip()}
	water.Check(s)
	water.Usable(s, truth, strips[0], exampleNeed())
	water.Sure(s, strips[0], exampleNeed(), 300)
	water.Possible(s, strips[0], exampleNeed(), 300)
	water.Windows(s, strips[0], exampleNeed())
	water.Deepest(s, strips[0], 2, 300)
	water.Best(s, strips, exampleNeed())
	water.Print(s.Weather)
	water.Bounds(s.Tide)
	water.Clash(s.Tide)
	water.Blame(s.Tide)
	if !reflect.DeepEqual(s, c) || !reflect.DeepEqual(truth, exampleTruth()) || strips[0] != exampleStrip() || strips[1] != exampleStrip() {
		t.Error("an argument was changed")
	}
	one, _ := water.Bounds(s.Tide)
	one[0] = span(1, 2)
	if other, _ := water.Bounds(s.Tide); other[0] == one[0] {
		t.Error("results share memory")
	}
}

// wild returns a number that is often near some limit, or far from all of them.
func wild(r *rand.Rand) int {
	numbers := []int{0, 1, 2, 8, 12, 300, 1000, api.WaterDay, api.WaterTide, api.WaterDepth, api.WaterValue, math.MaxInt32, math.MaxInt, math.MinInt}
	x := numbers[r.IntN(len(numbers))] + r.IntN(3) - 1
	if r.IntN(3) == 0 {
		return -x
	}
	return x
}

// fill fills all numbers of a value with wild ones, its lists with up to some values.
func fill(r *rand.Rand, v reflect.Value, most int) {
	switch v.Kind() {
	case reflect.Int:
		v.SetInt(int64(wild(r)))
	case reflect.Bool:
		v.SetBool(r.IntN(2) == 0)
	case reflect.Struct:
		for i := range v.NumField() {
			fill(r, v.Field(i), most)
		}
	case reflect.Slice:
		v.Set(reflect.MakeSlice(v.Type(), r.IntN(most+1), most))
		for i := range v.Len() {
			fill(r, v.Index(i), most)
		}
	}
}

// spoil puts a wild number somewhere into a value.
func spoil(r *rand.Rand, v reflect.Value) {
	switch v.Kind() {
	case reflect.Struct:
		spoil(r, v.Field(r.IntN(v.NumField())))
	case reflect.Slice:
		if v.Len() > 0 && r.IntN(4) > 0 {
			spoil(r, v.Index(r.IntN(v.Len())))
			return
		}
		fill(r, v, 35)
	default:
		fill(r, v, 1)
	}
}

// TestAnyValue checks P0.1: nothing panics, whatever the arguments are.
func TestAnyValue(t *testing.T) {
	r := newRandom()
	for i := range 3000 {
		s := smallSea(r)
		p, n, truth := smallStrip(r, s.Chart), smallNeed(r), exampleTruth()
		course := make([]int, r.IntN(api.WaterDay+3))
		minute, run := wild(r), wild(r)
		for k := range min(5, len(course)) {
			course[k] = wild(r)
		}
		if i%2 == 0 {
			fill(r, reflect.ValueOf(&s).Elem(), 35)
			fill(r, reflect.ValueOf(&p).Elem(), 1)
			fill(r, reflect.ValueOf(&n).Elem(), 1)
			fill(r, reflect.ValueOf(&truth).Elem(), 9)
		} else {
			spoil(r, reflect.ValueOf(&s).Elem())
			spoil(r, reflect.ValueOf(&p).Elem())
			spoil(r, reflect.ValueOf(&truth).Elem())
		}
		water.Check(s)
		water.Usable(s, truth, p, n)
		water.Sure(s, p, n, minute)
		water.Possible(s, p, n, minute)
		water.Deepest(s, p, run, minute)
		if i%20 == 0 {
			water.Windows(s, p, n)
			water.Best(s, []api.Strip{p, p}, n)
		}
		water.Print(s.Weather)
		for _, g := range gaugesOf(&s.Weather) {
			water.Known(*g)
			water.Fits(*g, course)
			water.Bounds(*g)
			water.Clash(*g)
		}
		water.Blame(s.Tide)
	}
}
