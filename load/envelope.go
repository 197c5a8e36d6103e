package load

import (
	"iter"

	"windsock/api"
)

// edge is an edge of an envelope.
type edge struct {
	from api.LoadCorner
	to   api.LoadCorner
}

// edges returns the edges between corners, with their numbers.
func edges(corners []api.LoadCorner) iter.Seq2[int, edge] {
	return func(yield func(int, edge) bool) {
		for i, from := range corners {
			if !yield(i, edge{from: from, to: corners[(i+1)%len(corners)]}) {
				return
			}
		}
	}
}

func (e edge) side(weight, moment int) int {
	return (e.to.Weight-e.from.Weight)*(moment-e.from.Moment) - (e.to.Moment-e.from.Moment)*(weight-e.from.Weight)
}

// lean returns by how much the side of a load grows with each kilogram at an arm.
func (e edge) lean(arm int) int {
	return (e.to.Weight-e.from.Weight)*arm - (e.to.Moment - e.from.Moment)
}

func inside(corners []api.LoadCorner, weight, moment int) bool {
	for _, e := range edges(corners) {
		if e.side(weight, moment) < 0 {
			return false
		}
	}
	return true
}
