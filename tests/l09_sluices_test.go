package tests

import (
	"fmt"
	"math"
	"math/rand"
	"slices"
	"testing"

	"loop.example/g01032/impl"
)

// water is the levels on both sides of a sluice, hour by hour.
type water struct{ inside, outside []int64 }

// waterOf returns hours, each of them told by its levels inside and outside.
func waterOf(levels ...int64) water {
	var w water
	for pair := range slices.Chunk(levels, 2) {
		w.inside, w.outside = append(w.inside, pair[0]), append(w.outside, pair[1])
	}
	return w
}

// stillWater returns many hours with the same levels.
func stillWater(many int, inside, outside int64) water {
	return water{filled(many, inside), filled(many, outside)}
}

func (w water) hours() int { return len(w.inside) }

// smallWaters are all waters of up to some hours with few levels.
func smallWaters(hours int, levels ...int64) []water {
	waters := []water{{}}
	longest := waters
	for range hours {
		var longer []water
		for _, w := range longest {
			for _, inside := range levels {
				for _, outside := range levels {
					longer = append(longer, water{slices.Concat(w.inside, []int64{inside}), slices.Concat(w.outside, []int64{outside})})
				}
			}
		}
		longest = longer
		waters = append(waters, longest...)
	}
	return waters
}

// randomWaters returns waters of 0 to 200 hours, always the same ones, with levels that are at most height away from 0.
func randomWaters(seed, height int64) []water {
	source := rand.New(rand.NewSource(seed))
	var waters []water
	for _, hours := range []int{0, 1, 2, 3, 5, 8, 13, 24, 60, 61, 120, 199, 200} {
		var w water
		for range hours {
			w.inside, w.outside = append(w.inside, source.Int63n(2*height+1)-height), append(w.outside, source.Int63n(2*height+1)-height)
		}
		waters = append(waters, w)
	}
	return waters
}

// limitWaters are waters that reach a limit.
func limitWaters() []water {
	return []water{
		{}, waterOf(2000, -2000), waterOf(-2000, 2000), waterOf(2000, 2000), waterOf(-2000, -2000), waterOf(0, 0), waterOf(2000, 1999, 1999, 2000, -1999, -2000, -2000, -1999),
		stillWater(199, 2000, -2000), stillWater(200, 2000, -2000), stillWater(200, -2000, 2000), stillWater(200, 0, 0), stillWater(200, 1, 0), stillWater(200, 0, 1),
	}
}

func allWaters() []water {
	return slices.Concat(limitWaters(), smallWaters(3, -1, 0, 2), randomWaters(1, 3), randomWaters(2, 60), randomWaters(3, 2000))
}

// badWaters are lists that are no hours.
func badWaters() []water {
	waters := []water{
		{inside: []int64{0}}, {outside: []int64{0}}, {[]int64{0, 0}, []int64{0}}, {[]int64{0}, []int64{0, 0}}, {filled(200, 0), filled(199, 0)}, {filled(199, 0), filled(200, 0)},
		stillWater(201, 1, 0), stillWater(201, 0, 0), stillWater(10000, 0, 1), {filled(201, 1), filled(200, 0)}, {filled(200, 1), filled(201, 0)},
		waterOf(2001, 0), waterOf(0, 2001), waterOf(-2001, 0), waterOf(0, -2001), waterOf(0, 0, 0, 0, 2001, 0), waterOf(0, 0, 0, 0, 0, -2001), waterOf(2001, 0, 0, 0), waterOf(0, -2001, 0, 0),
	}
	for _, n := range extremes {
		if n < -1 || n > 1 {
			waters = append(waters, waterOf(n, 0), waterOf(0, n), waterOf(n, n), waterOf(1, 0, n, 0), waterOf(1, 0, 1, n), stillWater(200, n, 0), stillWater(200, 0, n))
		}
	}
	return waters
}

// sluices are valid sluices.
func sluices() []impl.Sluice {
	return []impl.Sluice{
		{Width: 200, Sill: -200}, {Width: 1}, {Width: 9, Sill: -1}, {Width: 10, Sill: 1}, {Width: 11, Sill: -3}, {Width: 5000, Sill: -2000}, {Width: 5000, Sill: 2000},
		{Width: 1, Sill: -2000}, {Width: 1, Sill: 2000}, {Width: 4999, Sill: 7},
	}
}

// badSluices are sluices that are not valid.
func badSluices() []impl.Sluice {
	bad := []impl.Sluice{
		{}, {Sill: -200}, {Width: -1}, {Width: 5001}, {Width: 5001, Sill: -2000}, {Width: 1, Sill: -2001}, {Width: 1, Sill: 2001}, {Width: 5000, Sill: 2001}, {Width: 0, Sill: 2001},
	}
	for _, n := range extremes {
		if n < 0 || n > 1 {
			bad = append(bad, impl.Sluice{Width: n}, impl.Sluice{Width: n, Sill: n})
		}
		if n < -1 || n > 1 {
			bad = append(bad, impl.Sluice{Width: 200, Sill: n})
		}
	}
	return bad
}

// gates are valid states.
func gates() []impl.Gate {
	var all []impl.Gate
	for _, passed := range []int64{0, 1, 600, 997999999, 998000000, 998000001, 999999999, 1000000000} {
		for _, moves := range []int64{0, 1, 7, 999998, 999999, 1000000} {
			all = append(all, impl.Gate{Passed: passed, Moves: moves}, impl.Gate{Open: true, Passed: passed, Moves: moves})
		}
	}
	return all
}

// badGates are states that are not valid.
func badGates() []impl.Gate {
	bad := []impl.Gate{{Passed: 1000000001}, {Moves: 1000001}, {Passed: 1000000001, Moves: 1000001}}
	for _, n := range extremes {
		if n < 0 || n > 1000000000 {
			bad = append(bad, impl.Gate{Passed: n}, impl.Gate{Moves: n}, impl.Gate{Passed: n, Moves: n}, impl.Gate{Passed: 5, Moves: n}, impl.Gate{Passed: n, Moves: 5})
		}
	}
	for _, g := range bad {
		bad = append(bad, impl.Gate{Open: true, Passed: g.Passed, Moves: g.Moves})
	}
	return bad
}

// flowBy is the flow by the definition.
func flowBy(s impl.Sluice, inside, outside int64) int64 {
	height := min(inside-outside, inside-s.Sill)
	if height < 0 {
		return 0
	}
	tenfold := s.Width * height
	return (tenfold - tenfold%10) / 10
}

// stepBy is the state after an hour by the definition, for valid arguments.
func stepBy(s impl.Sluice, before impl.Gate, order, inside, outside int64) (impl.Gate, int64) {
	after := before
	switch order {
	case impl.OrderOpen:
		after.Open = true
	case impl.OrderClose:
		after.Open = false
	}
	if outside >= inside {
		if order == impl.OrderOpen {
			return impl.Gate{}, impl.ErrFlood
		}
		after.Open = false
	}
	if after.Open && !before.Open || before.Open && !after.Open {
		after.Moves = before.Moves + 1
	}
	if after.Open {
		after.Passed = before.Passed + flowBy(s, inside, outside)
	}
	if after.Passed > 1000000000 || after.Moves > 1000000 {
		return impl.Gate{}, impl.ErrFull
	}
	return after, impl.OK
}

// runBy is a run by the definition, for valid arguments.
func runBy(s impl.Sluice, orders []int64, w water) ([]impl.Gate, int64) {
	states := []impl.Gate{{}}
	for k, order := range orders {
		next, code := stepBy(s, states[k], order, w.inside[k], w.outside[k])
		if code != impl.OK {
			return nil, code
		}
		states = append(states, next)
	}
	return states[1:], impl.OK
}

// shouldOpen tells by the definition whether a sluice should be open.
func shouldOpen(s impl.Sluice, inside, outside, margin int64) bool {
	return inside >= outside+margin && inside > s.Sill
}

// ordersBy are the orders by the definition.
func ordersBy(s impl.Sluice, w water, margin int64) []int64 {
	var orders []int64
	for k := range w.inside {
		should := shouldOpen(s, w.inside[k], w.outside[k], margin)
		order := int64(impl.OrderKeep)
		if k == 0 && should {
			order = impl.OrderOpen
		}
		if k > 0 && should != shouldOpen(s, w.inside[k-1], w.outside[k-1], margin) {
			order = impl.OrderClose
			if should {
				order = impl.OrderOpen
			}
		}
		orders = append(orders, order)
	}
	return orders
}

// bestBy are the best hours by the definition: from all hours with a flow, the one with the greatest flow, the first one
// of several, is taken out again and again.
func bestBy(s impl.Sluice, w water, many int64) []int64 {
	isTaken := map[int]bool{}
	for range many {
		best := -1
		for k := range w.inside {
			flow := flowBy(s, w.inside[k], w.outside[k])
			if flow > 0 && !isTaken[k] && (best < 0 || flow > flowBy(s, w.inside[best], w.outside[best])) {
				best = k
			}
		}
		if best >= 0 {
			isTaken[best] = true
		}
	}
	var hours []int64
	for k := range w.inside {
		if isTaken[k] {
			hours = append(hours, int64(k))
		}
	}
	return hours
}

// shutBy is the longest time without any flow by the definition.
func shutBy(s impl.Sluice, w water) int64 {
	longest := 0
	for from := range w.inside {
		for to := from; to < w.hours() && flowBy(s, w.inside[to], w.outside[to]) == 0; to++ {
			longest = max(longest, to-from+1)
		}
	}
	return int64(longest)
}

// faultBy is the first hour in which an open sluice has no lower water outside; -1 if there is none.
func faultBy(open []bool, w water) int64 {
	for k := range open {
		if open[k] && w.outside[k] >= w.inside[k] {
			return int64(k)
		}
	}
	return -1
}

// ordersFrom returns as many orders as told: the last digits of a number written to the base 3.
func ordersFrom(number, many int) []int64 {
	orders := make([]int64, many)
	for k := range orders {
		orders[k] = int64(number % 3)
		number /= 3
	}
	return orders
}

// power returns base to the power of many.
func power(base, many int) int {
	product := 1
	for range many {
		product *= base
	}
	return product
}

// whichOpen tells of each state whether it is open.
func whichOpen(states []impl.Gate) []bool {
	open := make([]bool, len(states))
	for k, g := range states {
		open[k] = g.Open
	}
	return open
}

func TestSluiceConstants(t *testing.T) {
	if impl.OrderKeep != 0 || impl.OrderOpen != 1 || impl.OrderClose != 2 || impl.MaxHours != 200 || impl.MaxWidth != 5000 {
		t.Error("an order or a limit is wrong")
	}
}

func TestValidSluiceAndGate(t *testing.T) {
	checkValidity(t, impl.ValidSluice, sluices(), badSluices())
	checkValidity(t, impl.ValidGate, gates(), badGates())
	for _, n := range append([]int64{-2001, -2000, -1999, 1999, 2000, 2001, 4999, 5000, 5001, 999999, 1000000, 1000001, 999999999, 1000000000, 1000000001}, extremes...) {
		if got := impl.ValidSluice(impl.Sluice{Width: n}); got != (n >= 1 && n <= 5000) {
			t.Errorf("the width %d: %v", n, got)
		}
		if got := impl.ValidSluice(impl.Sluice{Width: 5, Sill: n}); got != (n >= -2000 && n <= 2000) {
			t.Errorf("the sill %d: %v", n, got)
		}
		for _, open := range []bool{false, true} {
			if got := impl.ValidGate(impl.Gate{Open: open, Passed: n}); got != (n >= 0 && n <= 1000000000) {
				t.Errorf("%d passed: %v", n, got)
			}
			if got := impl.ValidGate(impl.Gate{Open: open, Moves: n}); got != (n >= 0 && n <= 1000000) {
				t.Errorf("%d moves: %v", n, got)
			}
		}
	}
}

func TestFlowOut(t *testing.T) {
	example := impl.Sluice{Width: 200, Sill: -200}
	cases := []struct {
		sluice          impl.Sluice
		inside, outside int64
		want, code      int64
	}{
		{example, -100, -130, 600, impl.OK},
		{example, -100, -101, 20, impl.OK},
		{example, -100, -100, 0, impl.OK},
		{example, -100, -99, 0, impl.OK},
		{example, -100, 2000, 0, impl.OK},
		{example, -100, -199, 1980, impl.OK},
		{example, -100, -200, 2000, impl.OK},
		{example, -100, -201, 2000, impl.OK},
		{example, -100, -2000, 2000, impl.OK},
		{example, -199, -2000, 20, impl.OK},
		{example, -200, -201, 0, impl.OK},
		{example, -200, -2000, 0, impl.OK},
		{example, -201, -2000, 0, impl.OK},
		{example, -250, -300, 0, impl.OK},
		{example, -2000, -2000, 0, impl.OK},
		{impl.Sluice{Width: 1, Sill: -200}, 0, -9, 0, impl.OK},
		{impl.Sluice{Width: 1, Sill: -200}, 0, -10, 1, impl.OK},
		{impl.Sluice{Width: 1, Sill: -200}, 0, -19, 1, impl.OK},
		{impl.Sluice{Width: 1, Sill: -200}, 0, -20, 2, impl.OK},
		{impl.Sluice{Width: 9, Sill: -200}, 1, 0, 0, impl.OK},
		{impl.Sluice{Width: 10, Sill: -200}, 1, 0, 1, impl.OK},
		{impl.Sluice{Width: 11, Sill: -200}, 0, -19, 20, impl.OK},
		{impl.Sluice{Width: 5000, Sill: -2000}, 2000, -2000, 2000000, impl.OK},
		{impl.Sluice{Width: 5000, Sill: 2000}, 2000, -2000, 0, impl.OK},
		{impl.Sluice{Width: 5000, Sill: 1999}, 2000, -2000, 500, impl.OK},
		{example, 2001, 0, 0, impl.ErrRange},
		{example, -2001, 0, 0, impl.ErrRange},
		{example, 0, 2001, 0, impl.ErrRange},
		{example, 0, -2001, 0, impl.ErrRange},
		{example, 2000, 2000, 0, impl.OK},
		{example, math.MaxInt64, math.MinInt64, 0, impl.ErrRange},
		{impl.Sluice{}, 0, 0, 0, impl.ErrInvalid},
		{impl.Sluice{Width: 5001}, 0, 0, 0, impl.ErrInvalid},
		{impl.Sluice{Width: 5001}, 2001, 0, 0, impl.ErrInvalid},
		{impl.Sluice{Width: 5, Sill: 2001}, 0, 2001, 0, impl.ErrInvalid},
	}
	for _, c := range cases {
		if got, code := impl.FlowOut(c.sluice, c.inside, c.outside); got != c.want || code != c.code {
			t.Errorf("FlowOut(%v, %d, %d) = %d, %d", c.sluice, c.inside, c.outside, got, code)
		}
	}
}

// levelsAtSill are levels at the limits and around the sill of a sluice.
func levelsAtSill(s impl.Sluice) []int64 {
	levels := []int64{-2000, -1999, -1, 0, 1, 1999, 2000}
	for _, by := range []int64{-100, -10, -1, 0, 1, 9, 10, 11, 100} {
		if level := s.Sill + by; level >= -2000 && level <= 2000 {
			levels = append(levels, level)
		}
	}
	slices.Sort(levels)
	return slices.Compact(levels)
}

// TestFlowsByDefinition holds the flows of all sluices against the definition; water goes out only if it is lower outside.
func TestFlowsByDefinition(t *testing.T) {
	for _, s := range sluices() {
		for _, inside := range levelsAtSill(s) {
			for _, outside := range levelsAtSill(s) {
				want := flowBy(s, inside, outside)
				if got, code := impl.FlowOut(s, inside, outside); got != want || code != impl.OK {
					t.Fatalf("FlowOut(%v, %d, %d) = %d, %d, not %d", s, inside, outside, got, code, want)
				}
				if want > 0 && outside >= inside || want < 0 {
					t.Fatalf("%v lets in %d with %d inside and %d outside", s, want, inside, outside)
				}
			}
		}
	}
}

func TestStepSluice(t *testing.T) {
	s := impl.Sluice{Width: 200, Sill: -200}
	shut, open := impl.Gate{Passed: 50, Moves: 4}, impl.Gate{Open: true, Passed: 50, Moves: 4}
	opened, running := impl.Gate{Open: true, Passed: 650, Moves: 5}, impl.Gate{Open: true, Passed: 650, Moves: 4}
	closed := impl.Gate{Passed: 50, Moves: 5}
	cases := []struct {
		gate            impl.Gate
		order           int64
		inside, outside int64
		want            impl.Gate
		code            int64
	}{
		{shut, impl.OrderKeep, -100, -130, shut, impl.OK},
		{shut, impl.OrderOpen, -100, -130, opened, impl.OK},
		{shut, impl.OrderClose, -100, -130, shut, impl.OK},
		{open, impl.OrderKeep, -100, -130, running, impl.OK},
		{open, impl.OrderOpen, -100, -130, running, impl.OK},
		{open, impl.OrderClose, -100, -130, closed, impl.OK},
		{shut, impl.OrderKeep, -100, -100, shut, impl.OK},
		{shut, impl.OrderOpen, -100, -100, impl.Gate{}, impl.ErrFlood},
		{shut, impl.OrderClose, -100, -100, shut, impl.OK},
		{open, impl.OrderKeep, -100, -100, closed, impl.OK},
		{open, impl.OrderOpen, -100, -100, impl.Gate{}, impl.ErrFlood},
		{open, impl.OrderClose, -100, -100, closed, impl.OK},
		{shut, impl.OrderKeep, -100, -99, shut, impl.OK},
		{shut, impl.OrderOpen, -100, -99, impl.Gate{}, impl.ErrFlood},
		{shut, impl.OrderClose, -100, -99, shut, impl.OK},
		{open, impl.OrderKeep, -100, -99, closed, impl.OK},
		{open, impl.OrderOpen, -100, -99, impl.Gate{}, impl.ErrFlood},
		{open, impl.OrderClose, -100, -99, closed, impl.OK},
		{shut, impl.OrderOpen, -100, -101, impl.Gate{Open: true, Passed: 70, Moves: 5}, impl.OK},
		{open, impl.OrderKeep, -100, -101, impl.Gate{Open: true, Passed: 70, Moves: 4}, impl.OK},
		// Below the sill, no water goes out, but the sluice may be open.
		{shut, impl.OrderOpen, -250, -300, impl.Gate{Open: true, Passed: 50, Moves: 5}, impl.OK},
		{open, impl.OrderKeep, -200, -201, open, impl.OK},
		{open, impl.OrderKeep, -200, -200, closed, impl.OK},
		{open, impl.OrderOpen, -2000, -2000, impl.Gate{}, impl.ErrFlood},
		{open, impl.OrderKeep, 2000, 2000, closed, impl.OK},
		{open, impl.OrderOpen, 2000, 1999, impl.Gate{Open: true, Passed: 70, Moves: 4}, impl.OK},
		{open, 3, -100, -130, impl.Gate{}, impl.ErrRange},
		{open, -1, -100, -130, impl.Gate{}, impl.ErrRange},
		{open, 3, -100, -100, impl.Gate{}, impl.ErrRange},
		{open, impl.OrderOpen, -2001, -2001, impl.Gate{}, impl.ErrRange},
		{open, impl.OrderOpen, 2001, 2000, impl.Gate{}, impl.ErrRange},
		{open, impl.OrderOpen, 0, 2001, impl.Gate{}, impl.ErrRange},
		{open, impl.OrderKeep, 0, -2001, impl.Gate{}, impl.ErrRange},
		{impl.Gate{Passed: -1}, impl.OrderKeep, -100, -130, impl.Gate{}, impl.ErrInvalid},
		{impl.Gate{Moves: -1}, impl.OrderKeep, -100, -130, impl.Gate{}, impl.ErrInvalid},
		{impl.Gate{Moves: 1000001}, 3, -100, -100, impl.Gate{}, impl.ErrInvalid},
		{impl.Gate{Passed: 1000000001}, impl.OrderOpen, -100, -100, impl.Gate{}, impl.ErrInvalid},
	}
	for _, c := range cases {
		if got, code := impl.StepSluice(s, c.gate, c.order, c.inside, c.outside); got != c.want || code != c.code {
			t.Errorf("StepSluice(%v, %v, %d, %d, %d) = %v, %d", s, c.gate, c.order, c.inside, c.outside, got, code)
		}
	}
}

// TestStepsToTheLimits lets states reach their limits, and go just beyond them.
func TestStepsToTheLimits(t *testing.T) {
	s := impl.Sluice{Width: 10, Sill: -200}
	state := func(open bool, passed, moves int64) impl.Gate {
		return impl.Gate{Open: open, Passed: passed, Moves: moves}
	}
	cases := []struct {
		gate            impl.Gate
		order           int64
		inside, outside int64
		want            impl.Gate
		code            int64
	}{
		{state(true, 999999999, 0), impl.OrderKeep, 1, 0, state(true, 1000000000, 0), impl.OK},
		{state(true, 999999999, 0), impl.OrderKeep, 2, 0, impl.Gate{}, impl.ErrFull},
		{state(true, 1000000000, 0), impl.OrderKeep, 1, 0, impl.Gate{}, impl.ErrFull},
		{state(true, 1000000000, 0), impl.OrderOpen, 1, 0, impl.Gate{}, impl.ErrFull},
		{state(false, 1000000000, 0), impl.OrderOpen, 1, 0, impl.Gate{}, impl.ErrFull},
		{state(true, 1000000000, 0), impl.OrderKeep, 0, 0, state(false, 1000000000, 1), impl.OK},
		{state(true, 1000000000, 0), impl.OrderClose, 1, 0, state(false, 1000000000, 1), impl.OK},
		{state(false, 1000000000, 0), impl.OrderKeep, 1, 0, state(false, 1000000000, 0), impl.OK},
		{state(true, 1000000000, 0), impl.OrderKeep, -200, -201, state(true, 1000000000, 0), impl.OK},
		{state(false, 1000000000, 0), impl.OrderOpen, -200, -201, state(true, 1000000000, 1), impl.OK},
		{state(false, 0, 999999), impl.OrderOpen, 1, 0, state(true, 1, 1000000), impl.OK},
		{state(true, 0, 999999), impl.OrderClose, 1, 0, state(false, 0, 1000000), impl.OK},
		{state(true, 0, 999999), impl.OrderKeep, 0, 0, state(false, 0, 1000000), impl.OK},
		{state(false, 0, 1000000), impl.OrderOpen, 1, 0, impl.Gate{}, impl.ErrFull},
		{state(true, 0, 1000000), impl.OrderClose, 1, 0, impl.Gate{}, impl.ErrFull},
		{state(true, 0, 1000000), impl.OrderKeep, 0, 0, impl.Gate{}, impl.ErrFull},
		{state(true, 0, 1000000), impl.OrderKeep, 0, 1, impl.Gate{}, impl.ErrFull},
		{state(true, 0, 1000000), impl.OrderKeep, 1, 0, state(true, 1, 1000000), impl.OK},
		{state(true, 0, 1000000), impl.OrderOpen, 1, 0, state(true, 1, 1000000), impl.OK},
		{state(false, 0, 1000000), impl.OrderClose, 0, 0, state(false, 0, 1000000), impl.OK},
		{state(false, 1000000000, 1000000), impl.OrderKeep, 0, 1, state(false, 1000000000, 1000000), impl.OK},
		{state(false, 1000000000, 1000000), impl.OrderOpen, 0, 0, impl.Gate{}, impl.ErrFlood},
		{state(true, 1000000000, 1000000), impl.OrderOpen, 0, 1, impl.Gate{}, impl.ErrFlood},
		{state(true, 1000000000, 1000000), 3, 0, 1, impl.Gate{}, impl.ErrRange},
	}
	for _, c := range cases {
		if got, code := impl.StepSluice(s, c.gate, c.order, c.inside, c.outside); got != c.want || code != c.code {
			t.Errorf("StepSluice(%v, %v, %d, %d, %d) = %v, %d", s, c.gate, c.order, c.inside, c.outside, got, code)
		}
	}
	if got, code := impl.StepSluice(impl.Sluice{Width: 5000, Sill: -2000}, state(true, 998000000, 0), impl.OrderKeep, 2000, -2000); got != state(true, 1000000000, 0) || code != impl.OK {
		t.Errorf("the greatest flow leads to %v, %d", got, code)
	}
	if got, code := impl.StepSluice(impl.Sluice{Width: 5000, Sill: -2000}, state(true, 998000001, 0), impl.OrderKeep, 2000, -2000); got != state(false, 0, 0) || code != impl.ErrFull {
		t.Errorf("the greatest flow leads to %v, %d", got, code)
	}
}

// TestOpenSluiceHasLowerWaterOutside is promise 10 for single hours: it takes all states through an hour with all orders
// and all levels around each other, and holds the states against the definition.
func TestOpenSluiceHasLowerWaterOutside(t *testing.T) {
	for _, s := range sluices() {
		for _, g := range gates() {
			for order := range int64(3) {
				for _, inside := range []int64{-2000, s.Sill, max(s.Sill-1, -2000), min(s.Sill+1, 2000), 0, 2000} {
					for _, outside := range []int64{-2000, max(inside-7, -2000), max(inside-1, -2000), inside, min(inside+1, 2000), 2000} {
						got, code := impl.StepSluice(s, g, order, inside, outside)
						if code == impl.OK && got.Open && outside >= inside {
							t.Fatalf("StepSluice(%v, %v, %d, %d, %d) is open", s, g, order, inside, outside)
						}
						if want, wantCode := stepBy(s, g, order, inside, outside); got != want || code != wantCode {
							t.Fatalf("StepSluice(%v, %v, %d, %d, %d) = %v, %d, not %v, %d", s, g, order, inside, outside, got, code, want, wantCode)
						}
					}
				}
			}
		}
	}
}

func TestRunSluice(t *testing.T) {
	s := impl.Sluice{Width: 200, Sill: -200}
	w := waterOf(-100, -130, -100, -105, -110, -140, -110, -100, -100, -150)
	cases := []struct {
		orders []int64
		water  water
		want   []impl.Gate
		code   int64
	}{
		{nil, water{}, nil, impl.OK},
		{[]int64{}, water{[]int64{}, []int64{}}, nil, impl.OK},
		{[]int64{1, 2, 1, 2, 1}, w, []impl.Gate{{Open: true, Passed: 600, Moves: 1}, {Passed: 600, Moves: 2}, {Open: true, Passed: 1200, Moves: 3}, {Passed: 1200, Moves: 4}, {Open: true, Passed: 2200, Moves: 5}}, impl.OK},
		{[]int64{1, 0, 0, 0, 0}, w, []impl.Gate{{Open: true, Passed: 600, Moves: 1}, {Open: true, Passed: 700, Moves: 1}, {Open: true, Passed: 1300, Moves: 1}, {Passed: 1300, Moves: 2}, {Passed: 1300, Moves: 2}}, impl.OK},
		{[]int64{1, 1, 1, 0, 1}, w, []impl.Gate{{Open: true, Passed: 600, Moves: 1}, {Open: true, Passed: 700, Moves: 1}, {Open: true, Passed: 1300, Moves: 1}, {Passed: 1300, Moves: 2}, {Open: true, Passed: 2300, Moves: 3}}, impl.OK},
		{[]int64{0, 0, 0, 0, 0}, w, []impl.Gate{{}, {}, {}, {}, {}}, impl.OK},
		{[]int64{2, 2, 2, 2, 2}, w, []impl.Gate{{}, {}, {}, {}, {}}, impl.OK},
		{[]int64{0, 0, 0, 1, 0}, w, nil, impl.ErrFlood},
		{[]int64{1, 1, 1, 1, 1}, w, nil, impl.ErrFlood},
		{[]int64{1}, waterOf(0, 0), nil, impl.ErrFlood},
		{[]int64{0}, waterOf(0, 0), []impl.Gate{{}}, impl.OK},
		{[]int64{1}, waterOf(1, 0), []impl.Gate{{Open: true, Passed: 20, Moves: 1}}, impl.OK},
		{[]int64{1, 0}, waterOf(1, 0, 1, 1), []impl.Gate{{Open: true, Passed: 20, Moves: 1}, {Passed: 20, Moves: 2}}, impl.OK},
		{[]int64{1, 1}, waterOf(1, 0, 1, 1), nil, impl.ErrFlood},
		// What is out of range at the end comes before the water that would come in at the beginning.
		{[]int64{1, 3}, waterOf(0, 0, 1, 0), nil, impl.ErrRange},
		{[]int64{1, -1}, waterOf(0, 0, 1, 0), nil, impl.ErrRange},
		{[]int64{1, 0}, waterOf(0, 0, 2001, 0), nil, impl.ErrRange},
		{[]int64{1, 0}, waterOf(0, 0, 0, -2001), nil, impl.ErrRange},
		{[]int64{1, 2, 1, 2}, w, nil, impl.ErrRange},
		{[]int64{1, 2, 1, 2, 1, 0}, w, nil, impl.ErrRange},
		{nil, w, nil, impl.ErrRange},
		{[]int64{0}, water{}, nil, impl.ErrRange},
		{[]int64{1, 1}, water{[]int64{0, 0}, []int64{0}}, nil, impl.ErrRange},
		{[]int64{1, 1}, water{[]int64{0}, []int64{0, 0}}, nil, impl.ErrRange},
		{filled(201, 0), stillWater(201, 1, 0), nil, impl.ErrRange},
		{filled(201, 1), stillWater(201, 0, 0), nil, impl.ErrRange},
		{filled(200, 0), stillWater(201, 1, 0), nil, impl.ErrRange},
		{filled(201, 0), stillWater(200, 1, 0), nil, impl.ErrRange},
	}
	for _, c := range cases {
		if got, code := impl.RunSluice(s, c.orders, c.water.inside, c.water.outside); !slices.Equal(got, c.want) || code != c.code {
			t.Errorf("RunSluice(%v, %v, %v) = %v, %d", s, c.orders, c.water, got, code)
		}
	}
	if got, code := impl.RunSluice(impl.Sluice{}, []int64{3}, nil, nil); len(got) != 0 || code != impl.ErrInvalid {
		t.Errorf("a run without a sluice is %v, %d", got, code)
	}
}

func TestLongestRun(t *testing.T) {
	s := impl.Sluice{Width: 5000, Sill: -2000}
	for _, many := range []int{1, 199, 200} {
		w := stillWater(many, 2000, -2000)
		got, code := impl.RunSluice(s, filled(many, impl.OrderOpen), w.inside, w.outside)
		if len(got) != many || code != impl.OK || got[many-1] != (impl.Gate{Open: true, Passed: 2000000 * int64(many), Moves: 1}) {
			t.Errorf("a run of %d hours is %v, %d", many, got, code)
		}
		turns := slices.Repeat([]int64{impl.OrderOpen, impl.OrderClose}, many)[:many]
		got, code = impl.RunSluice(s, turns, w.inside, w.outside)
		if len(got) != many || code != impl.OK || got[many-1].Moves != int64(many) {
			t.Errorf("a run of %d hours with turns is %v, %d", many, got, code)
		}
	}
}

// checkRun holds a run against the definition; promise 10: where the sluice is open, the water outside is lower.
func checkRun(t *testing.T, s impl.Sluice, orders []int64, w water) {
	t.Helper()
	got, code := impl.RunSluice(s, orders, w.inside, w.outside)
	if want, wantCode := runBy(s, orders, w); !slices.Equal(got, want) || code != wantCode {
		t.Fatalf("RunSluice(%v, %v, %v) = %v, %d, not %v, %d", s, orders, w, got, code, want, wantCode)
	}
	if code != impl.OK {
		return
	}
	for k, g := range got {
		if g.Open && w.outside[k] >= w.inside[k] {
			t.Fatalf("RunSluice(%v, %v, %v) is open in the hour %d", s, orders, w, k)
		}
	}
	if fault, code := impl.GateFault(whichOpen(got), w.inside, w.outside); fault != -1 || code != impl.OK {
		t.Fatalf("RunSluice(%v, %v, %v) has the fault %d, %d", s, orders, w, fault, code)
	}
}

// TestRunsByDefinition is promise 10 for runs: all orders with all small waters, and random orders with longer ones.
func TestRunsByDefinition(t *testing.T) {
	for _, s := range sluices()[:5] {
		for _, w := range smallWaters(3, -1, 0, 2) {
			for number := range power(3, w.hours()) {
				checkRun(t, s, ordersFrom(number, w.hours()), w)
			}
		}
	}
	source := rand.New(rand.NewSource(11))
	for _, s := range sluices() {
		for _, w := range slices.Concat(limitWaters(), randomWaters(4, 3), randomWaters(5, 60), randomWaters(6, 2000)) {
			for range 10 {
				orders := make([]int64, w.hours())
				for k := range orders {
					orders[k] = source.Int63n(3)
				}
				checkRun(t, s, orders, w)
				for k := range orders {
					// Where water would come in, the order to open is left out, so that the run goes to its end.
					if w.outside[k] >= w.inside[k] && orders[k] == impl.OrderOpen {
						orders[k] = impl.OrderKeep
					}
				}
				checkRun(t, s, orders, w)
			}
		}
	}
}

func TestOrdersFor(t *testing.T) {
	s := impl.Sluice{Width: 200, Sill: -200}
	w := waterOf(-100, -130, -100, -105, -110, -140, -110, -100, -100, -150)
	cases := []struct {
		water  water
		margin int64
		want   []int64
		code   int64
	}{
		{w, 10, []int64{1, 2, 1, 2, 1}, impl.OK},
		{w, 1, []int64{1, 0, 0, 2, 1}, impl.OK},
		{w, 5, []int64{1, 0, 0, 2, 1}, impl.OK},
		{w, 6, []int64{1, 2, 1, 2, 1}, impl.OK},
		{w, 30, []int64{1, 2, 1, 2, 1}, impl.OK},
		{w, 31, []int64{0, 0, 0, 0, 1}, impl.OK},
		{w, 50, []int64{0, 0, 0, 0, 1}, impl.OK},
		{w, 51, []int64{0, 0, 0, 0, 0}, impl.OK},
		{w, 4000, []int64{0, 0, 0, 0, 0}, impl.OK},
		{w, 0, nil, impl.ErrRange},
		{w, -1, nil, impl.ErrRange},
		{w, 4001, nil, impl.ErrRange},
		{w, math.MaxInt64, nil, impl.ErrRange},
		{w, math.MinInt64, nil, impl.ErrRange},
		{water{}, 1, nil, impl.OK},
		{water{}, 0, nil, impl.ErrRange},
		{waterOf(0, 0), 1, []int64{0}, impl.OK},
		{waterOf(1, 0), 1, []int64{1}, impl.OK},
		{waterOf(1, 0), 2, []int64{0}, impl.OK},
		{waterOf(1, 0, 0, 0, 0, 1, 1, 0), 1, []int64{1, 2, 0, 1}, impl.OK},
		{waterOf(-199, -210), 10, []int64{1}, impl.OK},
		{waterOf(-200, -210), 10, []int64{0}, impl.OK},
		{waterOf(-201, -300), 10, []int64{0}, impl.OK},
		{waterOf(0, -10, -200, -300, 0, -10), 10, []int64{1, 2, 1}, impl.OK},
		{waterOf(2000, -2000), 4000, []int64{1}, impl.OK},
		{waterOf(1999, -2000), 4000, []int64{0}, impl.OK},
		{stillWater(200, 1, 0), 1, append([]int64{1}, filled(199, 0)...), impl.OK},
		{stillWater(201, 1, 0), 1, nil, impl.ErrRange},
		{waterOf(2001, 0), 1, nil, impl.ErrRange},
		{waterOf(0, -2001), 1, nil, impl.ErrRange},
		{water{[]int64{1}, nil}, 1, nil, impl.ErrRange},
		{water{nil, []int64{0}}, 1, nil, impl.ErrRange},
	}
	for _, c := range cases {
		if got, code := impl.OrdersFor(s, c.water.inside, c.water.outside, c.margin); !slices.Equal(got, c.want) || code != c.code {
			t.Errorf("OrdersFor(%v, %v, %d) = %v, %d", s, c.water, c.margin, got, code)
		}
	}
	if got, code := impl.OrdersFor(impl.Sluice{}, []int64{2001}, nil, 0); len(got) != 0 || code != impl.ErrInvalid {
		t.Errorf("the orders without a sluice are %v, %d", got, code)
	}
}

// TestOrdersAreObeyed holds orders against the definition, and has sluices run by them: they never let water in, and are
// open just when they should be.
func TestOrdersAreObeyed(t *testing.T) {
	for _, s := range sluices() {
		for _, w := range allWaters() {
			for _, margin := range []int64{1, 2, 3, 50, 4000} {
				orders, code := impl.OrdersFor(s, w.inside, w.outside, margin)
				if want := ordersBy(s, w, margin); !slices.Equal(orders, want) || code != impl.OK {
					t.Fatalf("OrdersFor(%v, %v, %d) = %v, %d, not %v", s, w, margin, orders, code, want)
				}
				states, code := impl.RunSluice(s, orders, w.inside, w.outside)
				if code != impl.OK || len(states) != w.hours() {
					t.Fatalf("%v with %v is run by %v to %v, %d", s, w, orders, states, code)
				}
				for k, g := range states {
					if g.Open != shouldOpen(s, w.inside[k], w.outside[k], margin) || g.Open && w.outside[k] >= w.inside[k] {
						t.Fatalf("%v with %v is run by %v to %v", s, w, orders, states)
					}
				}
			}
		}
	}
}

func TestOpenHours(t *testing.T) {
	shut, open := impl.Gate{Passed: 5, Moves: 3}, impl.Gate{Open: true, Passed: 5, Moves: 3}
	last := impl.Gate{Open: true, Passed: 1000000000, Moves: 1000000}
	cases := []struct {
		list []impl.Gate
		want []int64
		code int64
	}{
		{nil, nil, impl.OK},
		{[]impl.Gate{}, nil, impl.OK},
		{[]impl.Gate{{}}, nil, impl.OK},
		{[]impl.Gate{{Open: true}}, []int64{0}, impl.OK},
		{[]impl.Gate{shut, shut, shut}, nil, impl.OK},
		{[]impl.Gate{open, open, open}, []int64{0, 1, 2}, impl.OK},
		{[]impl.Gate{shut, open, shut, open}, []int64{1, 3}, impl.OK},
		{[]impl.Gate{{}, open, last, last}, []int64{1, 2, 3}, impl.OK},
		{[]impl.Gate{open, {Open: true, Passed: 4, Moves: 3}}, nil, impl.ErrInvalid},
		{[]impl.Gate{open, {Open: true, Passed: 5, Moves: 2}}, nil, impl.ErrInvalid},
		{[]impl.Gate{open, {Open: true, Passed: 4, Moves: 4}}, nil, impl.ErrInvalid},
		{[]impl.Gate{open, {Open: true, Passed: 6, Moves: 2}}, nil, impl.ErrInvalid},
		{[]impl.Gate{open, {Passed: 6, Moves: 3}}, []int64{0}, impl.OK},
		{[]impl.Gate{open, {Passed: 5, Moves: 4}}, []int64{0}, impl.OK},
		{[]impl.Gate{{}, open, open, shut, {Open: true}}, nil, impl.ErrInvalid},
		{[]impl.Gate{{Moves: 2}, {Moves: 1}}, nil, impl.ErrInvalid},
		{[]impl.Gate{{Passed: -1}}, nil, impl.ErrInvalid},
		{[]impl.Gate{open, {Passed: 1000000001, Moves: 3}}, nil, impl.ErrInvalid},
		{[]impl.Gate{open, {Passed: 5, Moves: 1000001}}, nil, impl.ErrInvalid},
		{slices.Repeat([]impl.Gate{shut}, 200), nil, impl.OK},
		{append(slices.Repeat([]impl.Gate{shut}, 199), open), []int64{199}, impl.OK},
		{slices.Repeat([]impl.Gate{shut}, 201), nil, impl.ErrInvalid},
		{slices.Repeat([]impl.Gate{open}, 10000), nil, impl.ErrInvalid},
	}
	for _, c := range cases {
		if got, code := impl.OpenHours(c.list); !slices.Equal(got, c.want) || code != c.code {
			t.Errorf("OpenHours(%v) = %v, %d", c.list, got, code)
		}
	}
	for _, g := range badGates() {
		for _, list := range [][]impl.Gate{{g}, {{}, g}, {g, last}, {open, open, g}, append(slices.Repeat([]impl.Gate{{}}, 199), g)} {
			if got, code := impl.OpenHours(list); len(got) != 0 || code != impl.ErrInvalid {
				t.Errorf("OpenHours(%v) = %v, %d", list, got, code)
			}
		}
	}
}

// TestOpenHoursOfRuns has all runs told to be open in just the hours in which they are.
func TestOpenHoursOfRuns(t *testing.T) {
	for _, s := range sluices() {
		for _, w := range allWaters() {
			states, _ := runBy(s, ordersBy(s, w, 1), w)
			var want []int64
			for k := range w.inside {
				if shouldOpen(s, w.inside[k], w.outside[k], 1) {
					want = append(want, int64(k))
				}
			}
			if got, code := impl.OpenHours(states); !slices.Equal(got, want) || code != impl.OK {
				t.Fatalf("OpenHours(%v) = %v, %d, not %v", states, got, code, want)
			}
		}
	}
}

func TestBestHours(t *testing.T) {
	s := impl.Sluice{Width: 10, Sill: -200}
	w := waterOf(-100, -130, -100, -105, -110, -140, -110, -100, -100, -150)
	cases := []struct {
		water water
		many  int64
		want  []int64
		code  int64
	}{
		{w, 0, nil, impl.OK},
		{w, 1, []int64{4}, impl.OK},
		{w, 2, []int64{0, 4}, impl.OK},
		{w, 3, []int64{0, 2, 4}, impl.OK},
		{w, 4, []int64{0, 1, 2, 4}, impl.OK},
		{w, 5, []int64{0, 1, 2, 4}, impl.OK},
		{w, 6, []int64{0, 1, 2, 4}, impl.OK},
		{w, 200, []int64{0, 1, 2, 4}, impl.OK},
		{w, 201, nil, impl.ErrRange},
		{w, -1, nil, impl.ErrRange},
		{w, math.MaxInt64, nil, impl.ErrRange},
		{w, math.MinInt64, nil, impl.ErrRange},
		{water{}, 0, nil, impl.OK},
		{water{}, 200, nil, impl.OK},
		{water{}, 201, nil, impl.ErrRange},
		{waterOf(0, 0), 1, nil, impl.OK},
		{waterOf(0, 1), 1, nil, impl.OK},
		{waterOf(-200, -300), 1, nil, impl.OK},
		{waterOf(1, 0), 1, []int64{0}, impl.OK},
		{waterOf(1, 0, 1, 0, 1, 0), 2, []int64{0, 1}, impl.OK},
		{waterOf(1, 0, 2, 0, 1, 0, 2, 0, 1, 0), 3, []int64{0, 1, 3}, impl.OK},
		{waterOf(1, 0, 2, 0, 3, 0), 2, []int64{1, 2}, impl.OK},
		{waterOf(3, 0, 2, 0, 1, 0), 2, []int64{0, 1}, impl.OK},
		// Below the sill, more height is no more flow.
		{waterOf(0, -200, 0, -300, 0, -250), 2, []int64{0, 1}, impl.OK},
		{stillWater(200, 2000, -2000), 1, []int64{0}, impl.OK},
		{stillWater(201, 1, 0), 1, nil, impl.ErrRange},
		{waterOf(0, 2001), 1, nil, impl.ErrRange},
		{waterOf(-2001, 0), 1, nil, impl.ErrRange},
		{water{[]int64{1, 1}, []int64{0}}, 1, nil, impl.ErrRange},
		{water{[]int64{1}, []int64{0, 0}}, 1, nil, impl.ErrRange},
	}
	for _, c := range cases {
		if got, code := impl.BestHours(s, c.water.inside, c.water.outside, c.many); !slices.Equal(got, c.want) || code != c.code {
			t.Errorf("BestHours(%v, %v, %d) = %v, %d", s, c.water, c.many, got, code)
		}
	}
	// A narrow sluice has no flow where less than a cubic metre goes out.
	if got, code := impl.BestHours(impl.Sluice{Width: 1, Sill: -200}, []int64{9, 10, 19, 20, 11}, filled(5, 0), 2); !slices.Equal(got, []int64{1, 3}) || code != impl.OK {
		t.Errorf("the best hours of a narrow sluice are %v, %d", got, code)
	}
	if got, code := impl.BestHours(impl.Sluice{}, []int64{2001}, nil, 201); len(got) != 0 || code != impl.ErrInvalid {
		t.Errorf("the best hours without a sluice are %v, %d", got, code)
	}
}

// flowOf is the sum of the flows of some hours.
func flowOf(s impl.Sluice, w water, hours []int64) int64 {
	sum := int64(0)
	for _, k := range hours {
		sum += flowBy(s, w.inside[k], w.outside[k])
	}
	return sum
}

// TestBestHoursAgainstAll compares the best hours with all sets of as many hours: none has more flow, and none with as much
// comes first, compared number by number.
func TestBestHoursAgainstAll(t *testing.T) {
	source := rand.New(rand.NewSource(12))
	for round := range 200 {
		s := sluices()[round%5]
		var w water
		for range round % 9 {
			w.inside, w.outside = append(w.inside, source.Int63n(5)), append(w.outside, source.Int63n(5))
		}
		for many := range int64(w.hours() + 2) {
			var best []int64
			for set := range 1 << w.hours() {
				var hours []int64
				for k := range w.hours() {
					if set>>k&1 == 1 && flowBy(s, w.inside[k], w.outside[k]) > 0 {
						hours = append(hours, int64(k))
					}
				}
				if int64(len(hours)) > many {
					continue
				}
				more := flowOf(s, w, hours) - flowOf(s, w, best)
				if more > 0 || more == 0 && slices.Compare(hours, best) < 0 {
					best = hours
				}
			}
			if got, code := impl.BestHours(s, w.inside, w.outside, many); !slices.Equal(got, best) || code != impl.OK {
				t.Fatalf("BestHours(%v, %v, %d) = %v, %d, not %v", s, w, many, got, code, best)
			}
		}
	}
}

// TestHoursByDefinition holds the best hours and the longest time without flow of many waters against the definitions.
func TestHoursByDefinition(t *testing.T) {
	for _, s := range sluices() {
		for _, w := range allWaters() {
			for _, many := range []int64{0, 1, 2, 7, 199, 200} {
				want := bestBy(s, w, min(many, int64(w.hours())))
				if got, code := impl.BestHours(s, w.inside, w.outside, many); !slices.Equal(got, want) || code != impl.OK {
					t.Fatalf("BestHours(%v, %v, %d) = %v, %d, not %v", s, w, many, got, code, want)
				}
			}
			want := shutBy(s, w)
			if got, code := impl.LongestShut(s, w.inside, w.outside); got != want || code != impl.OK {
				t.Fatalf("LongestShut(%v, %v) = %d, %d, not %d", s, w, got, code, want)
			}
		}
	}
}

func TestLongestShut(t *testing.T) {
	s := impl.Sluice{Width: 10, Sill: -200}
	cases := []struct {
		water water
		want  int64
		code  int64
	}{
		{water{}, 0, impl.OK},
		{water{[]int64{}, []int64{}}, 0, impl.OK},
		{waterOf(1, 0), 0, impl.OK},
		{waterOf(0, 0), 1, impl.OK},
		{waterOf(0, 1), 1, impl.OK},
		{waterOf(-200, -300), 1, impl.OK},
		{waterOf(-199, -300), 0, impl.OK},
		{waterOf(-100, -130, -100, -105, -110, -140, -110, -100, -100, -150), 1, impl.OK},
		{waterOf(0, 0, 0, 1, 1, 0, 0, 0), 2, impl.OK},
		{waterOf(0, 0, 1, 0, 0, 0, -200, -201), 2, impl.OK},
		{waterOf(1, 0, 0, 0, 0, 1, 0, 2, 1, 0), 3, impl.OK},
		{waterOf(0, 0, 0, 0, 1, 0, 0, 0, 0, 0, 0, 0, 1, 0, 0, 0), 3, impl.OK},
		{stillWater(200, 0, 0), 200, impl.OK},
		{stillWater(200, 1, 0), 0, impl.OK},
		{stillWater(201, 0, 0), 0, impl.ErrRange},
		{waterOf(0, 2001), 0, impl.ErrRange},
		{waterOf(2001, 0), 0, impl.ErrRange},
		{waterOf(0, 0, 0, -2001), 0, impl.ErrRange},
		{water{[]int64{0}, nil}, 0, impl.ErrRange},
		{water{nil, []int64{0}}, 0, impl.ErrRange},
	}
	for _, c := range cases {
		if got, code := impl.LongestShut(s, c.water.inside, c.water.outside); got != c.want || code != c.code {
			t.Errorf("LongestShut(%v, %v) = %d, %d", s, c.water, got, code)
		}
	}
	// What is less than a cubic metre is no flow.
	if got, code := impl.LongestShut(impl.Sluice{Width: 1, Sill: -200}, []int64{9, 9, 10, 1}, filled(4, 0)); got != 2 || code != impl.OK {
		t.Errorf("a narrow sluice is without flow for %d, %d", got, code)
	}
	if got, code := impl.LongestShut(impl.Sluice{}, []int64{2001}, nil); got != 0 || code != impl.ErrInvalid {
		t.Errorf("no sluice is without flow for %d, %d", got, code)
	}
}

func TestGateFault(t *testing.T) {
	w := waterOf(-100, -130, -100, -105, -110, -140, -110, -100, -100, -150)
	cases := []struct {
		open  []bool
		water water
		want  int64
		code  int64
	}{
		{[]bool{true, true, true, true, true}, w, 3, impl.OK},
		{[]bool{true, true, true, false, true}, w, -1, impl.OK},
		{[]bool{false, false, false, true, false}, w, 3, impl.OK},
		{[]bool{false, false, false, false, false}, w, -1, impl.OK},
		{nil, water{}, -1, impl.OK},
		{[]bool{}, water{[]int64{}, []int64{}}, -1, impl.OK},
		{[]bool{true}, waterOf(1, 0), -1, impl.OK},
		{[]bool{true}, waterOf(0, 0), 0, impl.OK},
		{[]bool{true}, waterOf(0, 1), 0, impl.OK},
		{[]bool{false}, waterOf(0, 0), -1, impl.OK},
		{[]bool{true}, waterOf(2000, 2000), 0, impl.OK},
		{[]bool{true}, waterOf(-2000, -2000), 0, impl.OK},
		{[]bool{true, true}, waterOf(1, 0, 1, 1), 1, impl.OK},
		{[]bool{false, true, true}, waterOf(0, 1, 0, 1, 0, 1), 1, impl.OK},
		{[]bool{true, true, true, true}, w, 0, impl.ErrRange},
		{[]bool{true, true, true, true, true, true}, w, 0, impl.ErrRange},
		{nil, w, 0, impl.ErrRange},
		{[]bool{true}, water{}, 0, impl.ErrRange},
		{[]bool{true}, water{[]int64{0}, nil}, 0, impl.ErrRange},
		{[]bool{true}, water{nil, []int64{0}}, 0, impl.ErrRange},
		{[]bool{true, true}, water{[]int64{0, 0}, []int64{0}}, 0, impl.ErrRange},
		{[]bool{true, true}, waterOf(0, 0, 2001, 0), 0, impl.ErrRange},
		{[]bool{true, false}, waterOf(0, 0, 0, -2001), 0, impl.ErrRange},
		{[]bool{false}, waterOf(0, 2001), 0, impl.ErrRange},
		{append(make([]bool, 199), true), stillWater(200, 0, 0), 199, impl.OK},
		{make([]bool, 200), stillWater(200, 0, 0), -1, impl.OK},
		{make([]bool, 201), stillWater(201, 1, 0), 0, impl.ErrRange},
		{make([]bool, 200), stillWater(201, 1, 0), 0, impl.ErrRange},
		{make([]bool, 201), stillWater(200, 1, 0), 0, impl.ErrRange},
	}
	for _, c := range cases {
		if got, code := impl.GateFault(c.open, c.water.inside, c.water.outside); got != c.want || code != c.code {
			t.Errorf("GateFault(%v, %v) = %d, %d", c.open, c.water, got, code)
		}
	}
}

// TestFaultsByDefinition holds faults against the definition, and so promise 10 can be seen from outside: all small waters
// with all choices of open hours, and longer ones with random hours.
func TestFaultsByDefinition(t *testing.T) {
	source := rand.New(rand.NewSource(13))
	for _, w := range allWaters() {
		choices := 20
		if w.hours() <= 3 {
			choices = 1 << w.hours()
		}
		for choice := range choices {
			open := make([]bool, w.hours())
			for k := range open {
				open[k] = source.Intn(20) == 0
				if w.hours() <= 3 {
					open[k] = choice>>k&1 == 1
				}
			}
			want := faultBy(open, w)
			if got, code := impl.GateFault(open, w.inside, w.outside); got != want || code != impl.OK {
				t.Fatalf("GateFault(%v, %v) = %d, %d, not %d", open, w, got, code, want)
			}
		}
	}
}

func TestGateText(t *testing.T) {
	cases := map[impl.Gate]string{
		{}:                                    "shut passed 0 moves 0",
		{Open: true}:                          "open passed 0 moves 0",
		{Open: true, Passed: 600, Moves: 1}:   "open passed 600 moves 1",
		{Passed: 1000000000, Moves: 1000000}:  "shut passed 1000000000 moves 1000000",
		{Open: true, Passed: 10, Moves: 20}:   "open passed 10 moves 20",
		{Open: true, Passed: 1000000001}:      "",
		{Open: true, Passed: 7, Moves: -1}:    "",
		{Passed: -1, Moves: 7}:                "",
		{Passed: 7, Moves: 1000001}:           "",
		{Passed: 1000000000, Moves: 1000001}:  "",
		{Open: true, Passed: 999, Moves: 1e6}: "open passed 999 moves 1000000",
	}
	for g, want := range cases {
		if got := impl.GateText(g); got != want {
			t.Errorf("GateText(%v) = %q, not %q", g, got, want)
		}
	}
	for _, g := range gates() {
		word := map[bool]string{false: "shut", true: "open"}[g.Open]
		if got, want := impl.GateText(g), fmt.Sprintf("%s passed %d moves %d", word, g.Passed, g.Moves); got != want {
			t.Errorf("GateText(%v) = %q, not %q", g, got, want)
		}
	}
	for _, g := range badGates() {
		if got := impl.GateText(g); got != "" {
			t.Errorf("GateText(%v) = %q", g, got)
		}
	}
}

// sluiceArguments are an argument of each kind for the functions of chapter 9; the number is an order, a margin, and a
// number of hours.
type sluiceArguments struct {
	sluice          impl.Sluice
	gate            impl.Gate
	number          int64
	inside, outside int64
	orders          []int64
	water           water
	open            []bool
	states          []impl.Gate
}

// calls are all functions of chapter 9 that return a code, with their results as texts, and the code at the end.
func (a sluiceArguments) calls() map[string]string {
	return map[string]string{
		"FlowOut":     fmt.Sprint(impl.FlowOut(a.sluice, a.inside, a.outside)),
		"StepSluice":  fmt.Sprint(impl.StepSluice(a.sluice, a.gate, a.number, a.inside, a.outside)),
		"RunSluice":   fmt.Sprint(impl.RunSluice(a.sluice, a.orders, a.water.inside, a.water.outside)),
		"OrdersFor":   fmt.Sprint(impl.OrdersFor(a.sluice, a.water.inside, a.water.outside, a.number)),
		"OpenHours":   fmt.Sprint(impl.OpenHours(a.states)),
		"BestHours":   fmt.Sprint(impl.BestHours(a.sluice, a.water.inside, a.water.outside, a.number)),
		"LongestShut": fmt.Sprint(impl.LongestShut(a.sluice, a.water.inside, a.water.outside)),
		"GateFault":   fmt.Sprint(impl.GateFault(a.open, a.water.inside, a.water.outside)),
	}
}

// noSluiceResults are the zero values of the results of the calls.
var noSluiceResults = map[string]string{
	"FlowOut": "0", "StepSluice": "{false 0 0}", "RunSluice": "[]", "OrdersFor": "[]", "OpenHours": "[]", "BestHours": "[]", "LongestShut": "0", "GateFault": "0",
}

// isValid tells by the definition of which calls the arguments are valid.
func (a sluiceArguments) isValid() map[string]bool {
	isSluice := a.sluice.Width >= 1 && a.sluice.Width <= 5000 && a.sluice.Sill >= -2000 && a.sluice.Sill <= 2000
	isState := func(g impl.Gate) bool {
		return g.Passed >= 0 && g.Passed <= 1000000000 && g.Moves >= 0 && g.Moves <= 1000000
	}
	areStates := len(a.states) <= 200
	for k, g := range a.states {
		areStates = areStates && isState(g) && (k == 0 || g.Passed >= a.states[k-1].Passed && g.Moves >= a.states[k-1].Moves)
	}
	return map[string]bool{
		"FlowOut": isSluice, "StepSluice": isSluice && isState(a.gate), "RunSluice": isSluice, "OrdersFor": isSluice, "OpenHours": areStates, "BestHours": isSluice, "LongestShut": isSluice, "GateFault": true,
	}
}

// isInRange tells by the definition of which calls the arguments are in range.
func (a sluiceArguments) isInRange() map[string]bool {
	isLevel := func(n int64) bool { return n >= -2000 && n <= 2000 }
	isOrder := func(n int64) bool { return n >= 0 && n <= 2 }
	areHours := a.water.hours() <= 200 && len(a.water.outside) == a.water.hours()
	for _, level := range slices.Concat(a.water.inside, a.water.outside) {
		areHours = areHours && isLevel(level)
	}
	areOrders := len(a.orders) == a.water.hours()
	for _, order := range a.orders {
		areOrders = areOrders && isOrder(order)
	}
	areLevels := isLevel(a.inside) && isLevel(a.outside)
	return map[string]bool{
		"FlowOut": areLevels, "StepSluice": areLevels && isOrder(a.number), "RunSluice": areHours && areOrders, "OrdersFor": areHours && a.number >= 1 && a.number <= 4000,
		"OpenHours": true, "BestHours": areHours && a.number >= 0 && a.number <= 200, "LongestShut": areHours, "GateFault": areHours && len(a.open) == a.water.hours(),
	}
}

// checkCodes has the first errors come just where they should.
func (a sluiceArguments) checkCodes(t *testing.T) {
	t.Helper()
	isValid, isInRange := a.isValid(), a.isInRange()
	for name, got := range a.calls() {
		checkErrors(t, name, a, got, noSluiceResults[name], isValid[name], isInRange[name])
	}
}

// sluiceNumbers are numbers at and around all limits of the chapter.
var sluiceNumbers = append([]int64{2, 3, -2, 199, 200, 201, 1999, 2000, 2001, -1999, -2000, -2001, 3999, 4000, 4001, 5000, 5001, 1000000, 1000001}, extremes...)

// TestSluiceCodes looks at all functions with good and bad arguments of each kind, alone and together.
func TestSluiceCodes(t *testing.T) {
	allSluices := append(badSluices(), sluices()[:3]...)
	for _, s := range allSluices {
		for _, number := range sluiceNumbers {
			for _, g := range append(badGates(), gates()[:3]...) {
				sluiceArguments{sluice: s, gate: g, number: number, inside: 5, outside: 4, states: []impl.Gate{{}, g}}.checkCodes(t)
			}
			for _, level := range sluiceNumbers {
				sluiceArguments{sluice: s, number: number, inside: level, outside: 4}.checkCodes(t)
				sluiceArguments{sluice: s, number: number, inside: 5, outside: level}.checkCodes(t)
				sluiceArguments{sluice: s, number: 1, inside: number, outside: level}.checkCodes(t)
			}
		}
		for _, w := range append(badWaters(), limitWaters()...) {
			for _, number := range []int64{-1, 0, 1, 2, 3, 200, 201, 4000, 4001, math.MaxInt64, math.MinInt64} {
				for _, many := range []int{w.hours(), w.hours() + 1, len(w.outside)} {
					for _, isOpen := range []bool{false, true} {
						open := slices.Repeat([]bool{isOpen}, many)
						sluiceArguments{sluice: s, number: number, orders: filled(many, number), water: w, open: open}.checkCodes(t)
					}
				}
			}
		}
	}
}

// TestSluiceCodesByHour puts numbers around the limits at each hour of a run.
func TestSluiceCodesByHour(t *testing.T) {
	for _, many := range []int{1, 2, 200} {
		for k := range many {
			for _, n := range sluiceNumbers {
				for place := range 3 {
					lists := [][]int64{filled(many, 0), filled(many, 5), filled(many, 4)}
					lists[place][k] = n
					a := sluiceArguments{sluice: sluices()[0], number: 1, orders: lists[0], water: water{lists[1], lists[2]}, open: make([]bool, many)}
					a.checkCodes(t)
				}
			}
		}
	}
}

// markGate fills the unused capacity of a list of states, where a write would show.
var markGate = impl.Gate{Open: true, Passed: spareMark, Moves: -spareMark}

// withGuards returns the arguments with marks in the unused capacity of their lists, and a function that fails if one of
// the lists, or one of the marks, has been changed.
func (a sluiceArguments) withGuards(t *testing.T) (sluiceArguments, func()) {
	t.Helper()
	var unchanged [5]func()
	a.orders, unchanged[0] = guarded(t, a.orders, spareMark)
	a.water.inside, unchanged[1] = guarded(t, a.water.inside, spareMark)
	a.water.outside, unchanged[2] = guarded(t, a.water.outside, spareMark)
	a.open, unchanged[3] = guarded(t, a.open, true)
	a.states, unchanged[4] = guarded(t, a.states, markGate)
	return a, together(t, unchanged[:]...)
}

// withCopies returns the arguments with copies of their lists, which have no unused capacity.
func (a sluiceArguments) withCopies() sluiceArguments {
	a.orders, a.open, a.states = slices.Clip(slices.Clone(a.orders)), slices.Clip(slices.Clone(a.open)), slices.Clip(slices.Clone(a.states))
	a.water = water{slices.Clip(slices.Clone(a.water.inside)), slices.Clip(slices.Clone(a.water.outside))}
	return a
}

// sluiceRuns are arguments with lists that belong together, and with some that do not.
func sluiceRuns() []sluiceArguments {
	var runs []sluiceArguments
	for _, w := range slices.Concat(limitWaters(), randomWaters(7, 3), randomWaters(8, 2000), badWaters()) {
		for _, s := range []impl.Sluice{sluices()[0], sluices()[2], sluices()[5], {}} {
			for _, number := range []int64{-1, 0, 1, 2, 3, 30, 201, 5000} {
				a := sluiceArguments{sluice: s, gate: impl.Gate{Open: number > 1}, number: number, inside: number, outside: 1, water: w}
				a.orders = filled(w.hours(), 0)
				if len(w.outside) == w.hours() {
					a.orders = ordersBy(s, w, number)
					a.states, _ = runBy(s, a.orders, w)
				}
				a.open = slices.Repeat([]bool{number > 2}, w.hours())
				runs = append(runs, a)
			}
		}
	}
	return runs
}

// TestSluiceFunctionsArePure is promise 1 for all functions of chapter 9: they return, change nothing, and give the same
// once more.
func TestSluiceFunctionsArePure(t *testing.T) {
	for _, a := range sluiceRuns() {
		checkCallsPure(t, a)
		a.checkCodes(t)
	}
	texts := func() string {
		text := ""
		for _, g := range append(badGates(), gates()...) {
			text += fmt.Sprintln(impl.ValidGate(g), impl.GateText(g))
		}
		for _, s := range append(badSluices(), sluices()...) {
			text += fmt.Sprintln(impl.ValidSluice(s))
		}
		return text
	}
	if first, again := texts(), texts(); first != again {
		t.Errorf("%s is followed by %s", first, again)
	}
}

// TestSluiceResultsAreNew is promise 1 as well: no result shares memory with an argument or with another one.
func TestSluiceResultsAreNew(t *testing.T) {
	for _, a := range sluiceRuns() {
		with, unchanged := a.withGuards(t)
		s, w := with.sluice, with.water
		checkFresh(t, func() []impl.Gate { states, _ := impl.RunSluice(s, with.orders, w.inside, w.outside); return states }, markGate, unchanged)
		checkFresh(t, func() []int64 { orders, _ := impl.OrdersFor(s, w.inside, w.outside, with.number); return orders }, -spareMark, unchanged)
		checkFresh(t, func() []int64 { hours, _ := impl.OpenHours(with.states); return hours }, -spareMark, unchanged)
		checkFresh(t, func() []int64 { hours, _ := impl.BestHours(s, w.inside, w.outside, with.number); return hours }, -spareMark, unchanged)
	}
}

// TestOneListForAll gives the same memory to a function as several arguments: the water is as high on both sides then.
func TestOneListForAll(t *testing.T) {
	s := sluices()[0]
	for _, list := range append(oddLists(), []int64{0, 2, 0}, []int64{2, 2}, []int64{0, 1, 2}, filled(200, 1), filled(201, 2)) {
		a := sluiceArguments{sluice: s, number: 1, orders: list, water: water{list, list}, open: make([]bool, len(list))}
		checkOneList(t, a, list)
		a.checkCodes(t)
		if a.isInRange()["RunSluice"] {
			checkRun(t, s, list, a.water)
		}
	}
}
