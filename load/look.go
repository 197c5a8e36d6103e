package load

import "windsock/api"

// part is one of the numbers of a load in truth: between which bounds it is, its arm, and the
// rule (with its index) that says how much may lie there.
type part struct {
	weight api.Span
	arm    int
	rule   api.LoadRule
	index  int
}

// look is a point that is looked at in a plane.
type look struct {
	api.Plane
	point api.LoadPoint
	parts []part
}

func lookAt(p api.Plane, x api.LoadPoint) *look {
	l := &look{Plane: p, point: x, parts: make([]part, 0, len(x.Items)+1+len(x.Water))}
	for _, item := range x.Items {
		l.parts = append(l.parts, part{item.Weight, p.Stations[item.Station].Arm, api.LoadOver, item.Station})
	}
	l.parts = append(l.parts, part{x.Tank, p.Tank.Arm, api.LoadFull, 0})
	for i, water := range x.Water {
		l.parts = append(l.parts, part{water, p.Floats[i].Arm, api.LoadWet, i})
	}
	return l
}

// together returns between which bounds the sum of some numbers is.
func together(weights ...api.Span) api.Span {
	var sum api.Span
	for _, w := range weights {
		sum.Low += w.Low
		sum.High += w.High
	}
	return sum
}

func (l *look) weight() api.Span {
	sum := span(l.Empty, l.Empty)
	for _, one := range l.parts {
		sum = together(sum, one.weight)
	}
	return sum
}

func (l *look) moment() api.Span {
	sum := span(l.Moment, l.Moment)
	for _, one := range l.parts {
		low, high := one.weight.Low*one.arm, one.weight.High*one.arm
		sum = together(sum, span(min(low, high), max(low, high)))
	}
	return sum
}

// rules returns the rules in their order. Each returns, for each of its indexes, how much the
// load in truth that comes nearest to breaking it has to spare: less than 0 if it breaks it.
func (l *look) rules() [6]func() []int {
	return [...]func() []int{l.over, l.full, l.wet, l.heavy, l.out, l.short}
}

func (l *look) over() []int {
	sums := map[int]int{}
	for _, item := range l.point.Items {
		sums[item.Station] += item.Weight.High
	}
	var spare []int
	for i, s := range l.Stations {
		spare = append(spare, s.Most-sums[i])
	}
	return spare
}

func (l *look) full() []int { return []int{l.Tank.Most - l.point.Tank.High} }

func (l *look) wet() []int {
	var spare []int
	for i, float := range l.Floats {
		spare = append(spare, float.Most-l.point.Water[i].High)
	}
	return spare
}

func (l *look) heavy() []int {
	most := l.Takeoff
	if l.point.Landing {
		most = l.Landing
	}
	return []int{most - l.weight().High}
}

func (l *look) out() []int {
	var spare []int
	for _, e := range edges(l.Corners) {
		side := e.side(l.Empty, l.Moment)
		for _, one := range l.parts {
			lean := e.lean(one.arm)
			side += min(lean*one.weight.Low, lean*one.weight.High)
		}
		spare = append(spare, side)
	}
	return spare
}

func (l *look) short() []int {
	if !l.point.Landing {
		return nil
	}
	return []int{l.point.Tank.Low - l.Reserve}
}

// broken returns the rule of the point and its index; LoadFine and 0 if it is sure.
func (l *look) broken() (api.LoadRule, int) {
	for i, rule := range l.rules() {
		for index, spare := range rule() {
			if spare < 0 {
				return api.LoadOver + api.LoadRule(i), index
			}
		}
	}
	return api.LoadFine, 0
}

// spare returns what there is to spare of all rules.
func (l *look) spare() []int {
	var all []int
	for _, rule := range l.rules() {
		all = append(all, rule()...)
	}
	return all
}

// worst returns the worst case of a point that breaks a rule.
func (l *look) worst(rule api.LoadRule, index int) api.LoadCase {
	var c api.LoadCase
	for _, one := range l.parts {
		weight := one.weight.Low
		if l.asHigh(one, rule, index) {
			weight = one.weight.High
		}
		switch one.rule {
		case api.LoadOver:
			c.Items = append(c.Items, weight)
		case api.LoadFull:
			c.Tank = weight
		default:
			c.Water = append(c.Water, weight)
		}
	}
	return c
}

// asHigh reports whether a part is as high as it can be in the worst case of a rule.
func (l *look) asHigh(one part, rule api.LoadRule, index int) bool {
	switch rule {
	case api.LoadHeavy:
		return true
	case api.LoadShort:
		return false
	case api.LoadOut:
		return l.edge(index).lean(one.arm) < 0
	}
	return one.rule == rule && one.index == index
}

func (l *look) edge(index int) edge {
	for i, e := range edges(l.Corners) {
		if i == index {
			return e
		}
	}
	return edge{}
}
