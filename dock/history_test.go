package dock_test

import (
	"slices"
	"testing"

	"windsock/api"
	"windsock/dock"
)

// ordersOf returns all orders of so many calls, in lexicographic order.
func ordersOf(count int) [][]int {
	orders := [][]int{{}}
	for range count {
		var longer [][]int
		for _, order := range orders {
			for call := range count {
				if !slices.Contains(order, call) {
					longer = append(longer, append(slices.Clone(order), call))
				}
			}
		}
		orders = longer
	}
	return orders
}

// isTrue reports whether an order explains calls.
func isTrue(calls []api.DockCall, order []int) bool {
	m := mooring{}
	for i, call := range order {
		for _, later := range order[i+1:] {
			if calls[later].End < calls[call].Begin {
				return false
			}
		}
		if m.do(calls[call]) != calls[call].Result {
			return false
		}
	}
	return true
}

// TestLinearExamples checks P6.4 (Linear).
func TestLinearExamples(t *testing.T) {
	late := exampleCalls()
	late[1].Begin, late[1].End = 5, 6
	moved := []api.DockCall{call(0, api.DockTake, 0, 1, 2, 1), move(0, 0, 1, 3, 9, 1), call(1, api.DockTake, 0, 4, 8, 1), call(2, api.DockAsk, 1, 5, 7, -1)}
	asked := slices.Clone(moved)
	asked[3].Begin, asked[3].End = 10, 11
	for i, one := range []struct {
		things int
		calls  []api.DockCall
		want   []int // nil for none
	}{
		{1, exampleCalls(), []int{1, 0, 2}},
		{4, exampleCalls(), []int{1, 0, 2}},
		{1, late, nil},
		{1, nil, []int{}},
		{2, moved, []int{0, 3, 1, 2}},
		{2, asked, nil},
		// a call that ends when another one begins may stand behind it
		{1, []api.DockCall{call(0, api.DockTake, 0, 1, 2, 0), call(1, api.DockTake, 0, 2, 3, 1)}, []int{1, 0}},
		{1, []api.DockCall{call(0, api.DockTake, 0, 1, 2, 0), call(1, api.DockTake, 0, 3, 4, 1)}, nil},
		// those of one dispatcher may overlap too, and need not keep their order
		{1, []api.DockCall{call(0, api.DockFree, 0, 1, 5, 1), call(0, api.DockTake, 0, 2, 6, 1)}, []int{1, 0}},
		// who has a thing cannot take it again, nor can somebody else give it back
		{1, []api.DockCall{call(0, api.DockTake, 0, 1, 2, 1), call(0, api.DockTake, 0, 3, 4, 1)}, nil},
		{1, []api.DockCall{call(0, api.DockTake, 0, 1, 2, 1), call(0, api.DockTake, 0, 3, 4, 0)}, []int{0, 1}},
		{1, []api.DockCall{call(0, api.DockTake, 0, 1, 2, 1), call(1, api.DockFree, 0, 3, 4, 1)}, nil},
		{1, []api.DockCall{call(0, api.DockTake, 0, 1, 2, 1), call(1, api.DockFree, 0, 3, 4, 0)}, []int{0, 1}},
		{1, []api.DockCall{call(1, api.DockFree, 0, 3, 4, 0), call(0, api.DockTake, 0, 1, 2, 1), call(0, api.DockFree, 0, 5, 6, 1), call(0, api.DockAsk, 0, 7, 8, -1)}, []int{1, 0, 2, 3}},
		// what nobody has cannot be given back
		{1, []api.DockCall{call(0, api.DockFree, 0, 1, 2, 1)}, nil},
		{1, []api.DockCall{call(0, api.DockFree, 0, 1, 2, 0)}, []int{0}},
		// a move needs the first thing, and the other one free, also of oneself
		{2, []api.DockCall{move(0, 0, 1, 1, 2, 1)}, nil},
		{2, []api.DockCall{move(0, 0, 1, 1, 2, 0)}, []int{0}},
		{2, []api.DockCall{call(0, api.DockTake, 0, 1, 2, 1), call(0, api.DockTake, 1, 1, 2, 1), move(0, 0, 1, 3, 4, 1)}, nil},
		{2, []api.DockCall{call(0, api.DockTake, 0, 1, 2, 1), call(1, api.DockTake, 1, 1, 2, 1), move(0, 0, 1, 3, 4, 0), call(3, api.DockAsk, 1, 5, 6, 1), call(3, api.DockAsk, 0, 5, 6, 0)}, []int{0, 1, 2, 3, 4}},
		{2, []api.DockCall{call(0, api.DockTake, 0, 1, 2, 1), move(1, 0, 1, 3, 4, 1)}, nil},
		// behind a move, the first thing is nobody's
		{2, []api.DockCall{call(2, api.DockTake, 1, 1, 2, 1), move(2, 1, 0, 3, 4, 1), call(0, api.DockAsk, 1, 5, 6, -1), call(0, api.DockAsk, 0, 5, 6, 2)}, []int{0, 1, 2, 3}},
		// results that no such call has
		{1, []api.DockCall{call(0, api.DockTake, 0, 1, 2, 2)}, nil},
		{1, []api.DockCall{call(0, api.DockTake, 0, 1, 2, -1)}, nil},
		{1, []api.DockCall{call(0, api.DockAsk, 0, 1, 2, 0)}, nil},
		{4, []api.DockCall{call(3, api.DockTake, 3, 0, 1, 1), call(0, api.DockAsk, 3, 999, 1000, 3)}, []int{0, 1}},
	} {
		l, e := dock.Linear(one.things, one.calls)
		if one.want == nil && (e != api.ErrNone || l != nil) || one.want != nil && (e != api.OK || !slices.Equal(l, one.want)) {
			t.Error(i, l, e)
		}
	}
}

// TestExplainsExamples checks P6.4 (Explains).
func TestExplainsExamples(t *testing.T) {
	for i, one := range []struct {
		order []int
		want  bool
	}{
		{[]int{1, 0, 2}, true},
		{[]int{0, 1, 2}, false},
		{[]int{1, 2, 0}, false}, // the call 0 ends before the call 2 begins
		// no orders
		{nil, false},
		{[]int{1}, false},
		{[]int{1, 0}, false},
		{[]int{1, 0, 0}, false},
		{[]int{1, 0, 3}, false},
		{[]int{1, 0, -1}, false},
		{[]int{1, 0, 2, 2}, false},
		{[]int{1, 0, 2, 3}, false},
		{[]int{1, 0, 2, -1}, false},
		{[]int{-1 << 63, 1<<63 - 1, 0}, false},
		{make([]int, 100), false},
	} {
		if is, e := dock.Explains(1, exampleCalls(), one.order); e != api.OK || is != one.want {
			t.Error(i, is, e)
		}
	}
	if is, e := dock.Explains(1, nil, nil); e != api.OK || !is {
		t.Error(is, e)
	}
	if is, e := dock.Explains(1, nil, []int{0}); e != api.OK || is {
		t.Error(is, e)
	}
}

// TestAllOrders compares Linear and Explains with all orders (P6.4).
func TestAllOrders(t *testing.T) {
	r := newRandom()
	orders := make([][][]int, 6)
	for count := range orders {
		orders[count] = ordersOf(count)
	}
	some, none := 0, 0
	for i := range 3000 {
		count, things := 1+r.IntN(5), 1+r.IntN(2)
		calls := randomCalls(r, things, count, 1+r.IntN(40), r.IntN(3))
		var first []int
		for _, order := range orders[count] {
			want := isTrue(calls, order)
			if is, e := dock.Explains(things, calls, order); e != api.OK || is != want {
				t.Fatal(i, calls, order, is, e)
			}
			if want && first == nil {
				first = order
			}
		}
		l, e := dock.Linear(things, calls)
		if first == nil && (e != api.ErrNone || l != nil) || first != nil && (e != api.OK || !slices.Equal(l, first)) {
			t.Fatal(i, calls, l, e, first)
		}
		if first == nil {
			none++
		} else if !slices.IsSorted(first) {
			some++
		}
	}
	if some < 300 || none < 300 {
		t.Error(some, none)
	}
}

// TestLongHistories compares Linear with all orders of as many calls as can be (P6.4).
func TestLongHistories(t *testing.T) {
	r := newRandom()
	orders := ordersOf(api.DockCalls)
	some, none := 0, 0
	for i := range 300 {
		things := 1 + r.IntN(api.DockThings)
		calls := randomCalls(r, things, api.DockCalls, 1+r.IntN(90), r.IntN(3))
		first := slices.IndexFunc(orders, func(order []int) bool { return isTrue(calls, order) })
		l, e := dock.Linear(things, calls)
		if first < 0 {
			none++
			if e != api.ErrNone || l != nil {
				t.Fatal(i, calls, l, e)
			}
			continue
		}
		some++
		if is, e2 := dock.Explains(things, calls, l); e != api.OK || !slices.Equal(l, orders[first]) || e2 != api.OK || !is {
			t.Fatal(i, calls, l, e, orders[first], is, e2)
		}
	}
	if some < 50 || none < 50 {
		t.Error(some, none)
	}
}

// TestNobodyTakesTwice checks P6.4: in an order that explains a history, nobody takes what somebody has.
func TestNobodyTakesTwice(t *testing.T) {
	r := newRandom()
	taken := 0
	for i := range 1000 {
		calls := randomCalls(r, 2, api.DockCalls, 60, 0)
		order, e := dock.Linear(2, calls)
		if e != api.OK {
			t.Fatal(i, calls, e) // it has happened one by one
		}
		has := [2]int{-1, -1}
		for _, index := range order {
			c := calls[index]
			switch {
			case c.Result != 1 || c.Kind == api.DockAsk:
				continue
			case c.Kind != api.DockTake && has[c.Thing] != c.Who:
				t.Fatal(i, calls, order)
			case c.Kind != api.DockTake:
				has[c.Thing] = -1
			}
			if c.Kind == api.DockFree {
				continue
			}
			into := c.Thing
			if c.Kind == api.DockMove {
				into = c.Other
			}
			if has[into] != -1 {
				t.Fatal(i, calls, order)
			}
			has[into] = c.Who
			taken++
		}
	}
	if taken < 1000 {
		t.Error(taken)
	}
}

// TestCallsErrors checks the errors of P6.4.
func TestCallsErrors(t *testing.T) {
	fails := func(i, things int, calls []api.DockCall, want api.Errno) {
		t.Helper()
		if l, e := dock.Linear(things, calls); e != want || l != nil {
			t.Error(i, l, e)
		}
		for _, order := range [][]int{nil, {0}, {1, 0, 2}} {
			if is, e := dock.Explains(things, calls, order); e != want || is {
				t.Error(i, is, e)
			}
		}
	}
	for i, bad := range []api.DockCall{
		call(-1, api.DockTake, 0, 1, 2, 1), call(4, api.DockTake, 0, 1, 2, 1),
		call(0, 0, 0, 1, 2, 1), call(0, 5, 0, 1, 2, 1), call(0, -1, 0, 1, 2, 1),
		call(0, api.DockTake, -1, 1, 2, 1), call(0, api.DockTake, 2, 1, 2, 1), call(0, api.DockTake, 4, 1, 2, 1),
		call(0, api.DockTake, 0, -1, 2, 1), call(0, api.DockTake, 0, 2, 2, 1), call(0, api.DockTake, 0, 3, 2, 1), call(0, api.DockTake, 0, 1, 1001, 1),
		call(0, api.DockAsk, 0, 1, 2, -2), call(0, api.DockAsk, 0, 1, 2, 4),
		move(0, 0, 0, 1, 2, 1), move(0, 1, 1, 1, 2, 1), move(0, 0, -1, 1, 2, 1), move(0, 0, 2, 1, 2, 1), move(0, 2, 0, 1, 2, 1),
		{Kind: api.DockTake, Other: 1, End: 1}, {Kind: api.DockFree, Other: -1, End: 1}, {Kind: api.DockAsk, Other: 1, End: 1},
		{},
	} {
		fails(i, 2, []api.DockCall{bad}, api.ErrArg)
		fails(i, 2, append(exampleCalls(), bad), api.ErrArg)
		fails(i, 2, slices.Repeat([]api.DockCall{bad}, 8), api.ErrLong)
	}
	for i, things := range []int{0, -1, 5, 1<<63 - 1, -1 << 63} {
		fails(i, things, nil, api.ErrArg)
		fails(i, things, exampleCalls(), api.ErrArg)
		fails(i, things, make([]api.DockCall, 8), api.ErrLong)
	}
	fails(0, 1, []api.DockCall{move(0, 0, 1, 1, 2, 1)}, api.ErrArg)
	fails(1, 4, slices.Repeat(exampleCalls()[:1], 8), api.ErrLong)
}
