package run

import (
	"slices"

	"windsock/api"
)

// first returns the first of some values that is good, and whether any is.
func first[T any](values []T, good func(T) bool) (T, bool) {
	var value T
	at := slices.IndexFunc(values, good)
	if at >= 0 {
		value = values[at]
	}
	return value, at >= 0
}

// around returns the bounds of some numbers.
func around(numbers ...int) api.Span {
	return span(slices.Min(numbers), slices.Max(numbers))
}

// divideUp returns a quotient of numbers from 0 on, rounded up.
func divideUp(number, by int) int { return (number + by - 1) / by }

// told returns what a table says of a weight, and whether it says anything.
func told(rows []api.RunRow, weight int) (int, bool) {
	row, says := first(rows, func(row api.RunRow) bool { return row.Weight >= weight })
	return row.Metres, says
}

// roll is an aircraft that is looked at on the water.
type roll struct {
	api.Craft
	kind api.RunKind
}

func (r *roll) table() []api.RunRow {
	if r.kind == api.RunOff {
		return r.Off
	}
	return r.On
}

// factor returns, in per mille, by how much waves make a run longer.
func (r *roll) factor(wave int) int {
	switch {
	case wave < r.Glass:
		return r.GlassBy
	case wave > r.Rough:
		return r.RoughBy
	}
	return 1000
}

// length returns the run with a weight of which the table says something.
func (r *roll) length(weight, along, wave int) int {
	metres, _ := told(r.table(), weight)
	by := r.Tail
	if along < 0 {
		by = r.Head
	}
	return max(1, divideUp(metres*r.factor(wave), 1000)+by*along)
}

// bounds returns the bounds of the run. More weight and more wind from behind make no run
// shorter, and of the waves those that are neither glassy nor rough make none longer.
func (r *roll) bounds(weight, along, wave api.Span) api.Span {
	easy := min(max(wave.Low, r.Glass), wave.High)
	var runs []int
	for _, height := range [...]int{wave.Low, easy, wave.High} {
		runs = append(runs, r.length(weight.Low, along.Low, height), r.length(weight.High, along.High, height))
	}
	return around(runs...)
}

// heaviest returns the greatest weight whose run is surely at most so many metres, and whether
// there is any. All weights of a row have the same run, so it is the weight of a row.
func (r *roll) heaviest(metres int, along, wave api.Span) (int, bool) {
	rows := slices.Clone(r.table())
	slices.Reverse(rows)
	row, some := first(rows, func(row api.RunRow) bool {
		return r.bounds(exactly(row.Weight), along, wave).High <= metres
	})
	return row.Weight, some
}
