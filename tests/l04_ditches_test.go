package tests

import (
	"fmt"
	"maps"
	"math"
	"math/rand"
	"slices"
	"strconv"
	"strings"
	"testing"

	"loop.example/g01032/impl"
)

func net(junctions int64, ditches ...impl.Ditch) impl.Net {
	return impl.Net{Junctions: junctions, Ditches: ditches}
}

func copyOfNet(n impl.Net) impl.Net {
	return net(n.Junctions, slices.Clone(n.Ditches)...)
}

func ditch(from, to, flow int64) impl.Ditch { return impl.Ditch{From: from, To: to, Flow: flow} }

// fullNet has as many ditches as there may be, all of them with the greatest flow to the outlet.
func fullNet(junctions int64) impl.Net {
	return net(junctions, slices.Repeat([]impl.Ditch{ditch(junctions-1, 0, 1000)}, 20)...)
}

// chain leads water from each junction to the one before.
func chain(junctions, flow int64) impl.Net {
	n := net(junctions)
	for j := int64(1); j < junctions; j++ {
		n.Ditches = append(n.Ditches, ditch(j, j-1, flow))
	}
	return n
}

// randomNets returns many nets of each size, always the same ones, with flows of 0 to most.
func randomNets(seed int64, many int, most int64) []impl.Net {
	source := rand.New(rand.NewSource(seed))
	var nets []impl.Net
	for junctions := int64(2); junctions <= 10; junctions++ {
		for range many {
			n := net(junctions)
			for range source.Intn(21) {
				from := source.Int63n(junctions)
				to := (from + 1 + source.Int63n(junctions-1)) % junctions
				n.Ditches = append(n.Ditches, ditch(from, to, source.Int63n(most+1)))
			}
			nets = append(nets, n)
		}
	}
	return nets
}

// detours returns nets where the shortest way to the outlet is a detour for the other water: part of
// what flows from 1 to 2 must be led back.
func detours(seed int64, many int) []impl.Net {
	source := rand.New(rand.NewSource(seed))
	var nets []impl.Net
	for range many {
		n := detour(source.Int63n(4), source.Int63n(4), source.Int63n(4), source.Int63n(4), source.Int63n(4))
		source.Shuffle(len(n.Ditches), func(i, k int) { n.Ditches[i], n.Ditches[k] = n.Ditches[k], n.Ditches[i] })
		nets = append(nets, n)
	}
	return nets
}

// detour leads water from 7 by 1 and 2 to the outlet, from 7 to 2 by 3 and 4, and from 1 to the
// outlet by 5 and 6.
func detour(in, across, out, before, behind int64) impl.Net {
	return net(8, ditch(7, 1, in), ditch(1, 2, across), ditch(2, 0, out), ditch(7, 3, before), ditch(3, 4, before), ditch(4, 2, before),
		ditch(1, 5, behind), ditch(5, 6, behind), ditch(6, 0, behind))
}

func allNets() []impl.Net {
	nets := slices.Concat(randomNets(1, 30, 2), randomNets(2, 30, 12), randomNets(3, 30, 1000), detours(9, 300))
	for junctions := int64(2); junctions <= 10; junctions++ {
		nets = append(nets, net(junctions), chain(junctions, 1000), chain(junctions, 0), fullNet(junctions))
	}
	return append(nets, oddNets()...)
}

// oddNets have ditches that lead nowhere, in a round, from the outlet, or with nothing in them.
func oddNets() []impl.Net {
	return []impl.Net{
		net(3, ditch(2, 1, 5)),
		net(3, ditch(2, 1, 5), ditch(2, 0, 4)),
		net(4, ditch(3, 2, 5), ditch(2, 1, 5), ditch(1, 3, 5)),
		net(4, ditch(3, 2, 5), ditch(2, 3, 5), ditch(3, 0, 1)),
		net(3, ditch(0, 2, 9), ditch(0, 1, 9)),
		net(3, ditch(0, 2, 9), ditch(2, 0, 3), ditch(2, 1, 4), ditch(1, 0, 2)),
		net(3, ditch(2, 1, 0), ditch(1, 0, 7)),
		net(3, ditch(2, 1, 7), ditch(1, 0, 0)),
		net(2, ditch(1, 0, 0)),
		net(5, ditch(4, 3, 9), ditch(3, 2, 9), ditch(2, 1, 9), ditch(4, 0, 1)),
	}
}

// badNets are nets that are not valid, each for one reason.
func badNets() []impl.Net {
	nets := []impl.Net{
		{}, {Ditches: []impl.Ditch{}}, net(1), net(0), net(-1), net(11), net(math.MaxInt64), net(math.MinInt64),
		net(1, ditch(0, 0, 0)), net(11, ditch(1, 0, 1)), net(0, ditch(1, 0, 1)), net(math.MinInt64, ditch(1, 0, 1)),
		net(3, append(fullNet(3).Ditches, ditch(1, 0, 1))...),
		net(3, slices.Repeat(fullNet(3).Ditches, 500)...),
	}
	for _, d := range badDitches(3) {
		nets = append(nets, net(3, d), net(3, ditch(1, 0, 1), d), net(3, d, ditch(1, 0, 1)), net(3, append(fullNet(3).Ditches[1:], d)...))
	}
	return nets
}

// badDitches are no ditches of a valid net with some junctions.
func badDitches(junctions int64) []impl.Ditch {
	ditches := []impl.Ditch{
		ditch(0, 0, 0), ditch(0, 0, 1), ditch(1, 1, 5), ditch(junctions, junctions, 1), ditch(-1, -1, 1),
		ditch(1, 0, -1), ditch(1, 0, 1001), ditch(-1, 0, 1), ditch(junctions, 0, 1), ditch(0, -1, 1), ditch(0, junctions, 1),
	}
	for _, n := range []int64{math.MinInt64, math.MaxInt64} {
		ditches = append(ditches, ditch(n, 0, 1), ditch(0, n, 1), ditch(1, 0, n), ditch(n, n, n))
	}
	return ditches
}

// sidesOf returns all lists of junctions, strictly increasing, that a net has.
func sidesOf(n impl.Net) [][]int64 {
	sides := [][]int64{nil}
	for j := range n.Junctions {
		for _, side := range slices.Clone(sides) {
			sides = append(sides, append(slices.Clone(side), j))
		}
	}
	return sides
}

// badSides are no lists of junctions of a net with three of them, strictly increasing.
var badSides = [][]int64{
	{-1}, {3}, {0, 3}, {-1, 0}, {1, 1}, {0, 0}, {2, 1}, {1, 0}, {0, 2, 1}, {0, 1, 1}, {0, 1, 2, 2}, {0, 1, 2, 3},
	{math.MinInt64}, {math.MaxInt64}, {0, math.MaxInt64}, {math.MinInt64, 1}, filled(10000, 1),
}

// cutOf is the cut by its definition.
func cutOf(n impl.Net, side []int64) int64 {
	cut := int64(0)
	for _, d := range n.Ditches {
		if slices.Contains(side, d.From) && !slices.Contains(side, d.To) {
			cut += d.Flow
		}
	}
	return cut
}

// leastCut returns the least cut of all junctions among which is a first one, but not the outlet,
// and all the fewest junctions that have it.
func leastCut(n impl.Net, from int64) (int64, [][]int64) {
	least := int64(math.MaxInt64)
	var fewest [][]int64
	for _, side := range sidesOf(n) {
		if !slices.Contains(side, from) || slices.Contains(side, 0) {
			continue
		}
		cut := cutOf(n, side)
		if cut < least || cut == least && len(side) < len(fewest[0]) {
			least, fewest = cut, nil
		}
		if cut == least && (len(fewest) == 0 || len(side) == len(fewest[0])) {
			fewest = append(fewest, side)
		}
	}
	return least, fewest
}

// leads reports by the definition whether flows lead water, and tells their sum.
func leads(n impl.Net, from int64, flows []int64) (bool, int64) {
	out := make([]int64, n.Junctions)
	for k, d := range n.Ditches {
		if flows[k] < 0 || flows[k] > d.Flow {
			return false, 0
		}
		out[d.From] += flows[k]
		out[d.To] -= flows[k]
	}
	for j := int64(1); j < n.Junctions; j++ {
		if j != from && out[j] != 0 {
			return false, 0
		}
	}
	return out[from] >= 0, out[from]
}

// flowsOf finds flows with a sum by leading one more cubic metre at a time, or takes it back where
// it flows already.
func flowsOf(n impl.Net, from, sum int64) []int64 {
	flows := make([]int64, len(n.Ditches))
	for range sum {
		seen := map[int64]bool{}
		var lead func(j int64) bool
		lead = func(j int64) bool {
			if j == 0 {
				return true
			}
			seen[j] = true
			for k, d := range n.Ditches {
				if d.From == j && flows[k] < d.Flow && !seen[d.To] && lead(d.To) {
					flows[k]++
					return true
				}
				if d.To == j && flows[k] > 0 && !seen[d.From] && lead(d.From) {
					flows[k]--
					return true
				}
			}
			return false
		}
		if !lead(from) {
			return nil
		}
	}
	return flows
}

func netsText(n impl.Net) string {
	text := strconv.FormatInt(n.Junctions, 10) + ":"
	for _, d := range n.Ditches {
		text += fmt.Sprintf(" %d>%d=%d", d.From, d.To, d.Flow)
	}
	return text
}

func TestValidNet(t *testing.T) {
	if impl.MaxJunctions != 10 || impl.MaxDitches != 20 || impl.MaxDitchFlow != 1000 {
		t.Error("a limit is wrong")
	}
	checkValidity(t, impl.ValidNet, allNets(), badNets())
}

// TestValidNetByDitch has ditches around all limits, at each place.
func TestValidNetByDitch(t *testing.T) {
	for junctions := int64(0); junctions <= 12; junctions++ {
		for from := int64(-2); from <= 12; from++ {
			for to := int64(-2); to <= 12; to++ {
				for _, flow := range []int64{-1, 0, 1, 999, 1000, 1001} {
					places := from >= 0 && from < junctions && to >= 0 && to < junctions && from != to
					want := junctions >= 2 && junctions <= 10 && places && flow >= 0 && flow <= 1000
					if n := net(junctions, ditch(1, 0, 1), ditch(from, to, flow)); impl.ValidNet(n) != want {
						t.Errorf("ValidNet(%v) = %v", n, !want)
					}
				}
			}
		}
	}
}

func TestSameNet(t *testing.T) {
	different := []impl.Net{
		net(3, ditch(1, 0, 1), ditch(2, 0, 1)), net(3, ditch(2, 0, 1), ditch(1, 0, 1)), net(4, ditch(1, 0, 1), ditch(2, 0, 1)),
		net(3, ditch(1, 0, 1)), net(3, ditch(1, 0, 2)), net(3, ditch(1, 2, 1)), net(3, ditch(2, 0, 1)), net(3), net(4),
		net(0), net(0, ditch(0, 0, 0)), net(0, ditch(0, 0, 0), ditch(0, 0, 0)), net(-1, ditch(9, 9, 9)), net(math.MinInt64), net(math.MaxInt64),
	}
	checkDiffer(t, different, copyOfNet, impl.SameNet)
	if !impl.SameNet(impl.Net{}, impl.Net{Ditches: []impl.Ditch{}}) || !impl.SameNet(impl.Net{Ditches: []impl.Ditch{}}, impl.Net{}) {
		t.Error("nil and empty Ditches are told to differ")
	}
}

func TestAddDitch(t *testing.T) {
	for _, n := range allNets() {
		for from := range n.Junctions {
			d := ditch(from, (from+1)%n.Junctions, from*111+1)
			got, code := impl.AddDitch(n, d)
			if len(n.Ditches) == 20 {
				if !impl.SameNet(got, impl.Net{}) || code != impl.ErrFull {
					t.Fatalf("AddDitch(%v, %v) = %v, %d", n, d, got, code)
				}
				continue
			}
			if !impl.SameNet(got, net(n.Junctions, append(slices.Clone(n.Ditches), d)...)) || code != impl.OK {
				t.Fatalf("AddDitch(%v, %v) = %v, %d", n, d, got, code)
			}
		}
	}
	n := net(2)
	for range 20 {
		n, _ = impl.AddDitch(n, ditch(1, 0, 1000)) // several ditches with the same junctions
	}
	if !impl.SameNet(n, fullNet(2)) {
		t.Errorf("twenty ditches are %v", n)
	}
}

// TestNoDitches has ErrRange come before ErrFull.
func TestNoDitches(t *testing.T) {
	for _, n := range []impl.Net{net(3), chain(3, 1), net(3, fullNet(3).Ditches[1:]...), fullNet(3)} {
		for _, d := range badDitches(3) {
			if got, code := impl.AddDitch(n, d); !impl.SameNet(got, impl.Net{}) || code != impl.ErrRange {
				t.Errorf("AddDitch(%v, %v) = %v, %d", n, d, got, code)
			}
		}
		for _, d := range []impl.Ditch{ditch(0, 1, 0), ditch(2, 1, 1000)} {
			if _, code := impl.AddDitch(n, d); (code == impl.OK) != (len(n.Ditches) < 20) {
				t.Errorf("AddDitch(%v, %v): %d", n, d, code)
			}
		}
	}
}

func TestCloseDitch(t *testing.T) {
	for _, n := range allNets() {
		for k := range n.Ditches {
			want := net(n.Junctions, slices.Delete(slices.Clone(n.Ditches), k, k+1)...)
			if got, code := impl.CloseDitch(n, int64(k)); !impl.SameNet(got, want) || code != impl.OK {
				t.Fatalf("CloseDitch(%v, %d) = %v, %d", n, k, got, code)
			}
		}
		many := int64(len(n.Ditches))
		for _, k := range []int64{-1, many, many + 1, math.MinInt64, math.MaxInt64} {
			if got, code := impl.CloseDitch(n, k); !impl.SameNet(got, impl.Net{}) || code != impl.ErrRange {
				t.Fatalf("CloseDitch(%v, %d) = %v, %d", n, k, got, code)
			}
		}
	}
}

func TestReachedFrom(t *testing.T) {
	cases := []struct {
		n    impl.Net
		from int64
		want []int64
	}{
		{net(2), 1, []int64{1}},
		{net(10), 9, []int64{9}},
		{net(2, ditch(1, 0, 1)), 1, []int64{0, 1}},
		{net(2, ditch(1, 0, 0)), 1, []int64{1}},
		{net(2, ditch(0, 1, 5)), 1, []int64{1}},
		{net(3, ditch(2, 1, 5)), 2, []int64{1, 2}},
		{net(3, ditch(2, 1, 5)), 1, []int64{1}},
		{net(3, ditch(2, 1, 0), ditch(2, 1, 1)), 2, []int64{1, 2}},
		{net(3, ditch(1, 0, 1), ditch(2, 1, 1)), 2, []int64{0, 1, 2}},
		{net(4, ditch(3, 0, 1), ditch(0, 1, 1)), 3, []int64{0, 1, 3}}, // also beyond the outlet
		{net(4, ditch(3, 2, 1), ditch(2, 3, 1)), 3, []int64{2, 3}},
		{chain(10, 1), 9, countingUp(0, 9)},
		{chain(10, 1), 4, countingUp(0, 4)},
		{chain(10, 0), 9, []int64{9}},
	}
	for _, c := range cases {
		if got, code := impl.ReachedFrom(c.n, c.from); !slices.Equal(got, c.want) || code != impl.OK {
			t.Errorf("ReachedFrom(%v, %d) = %v, %d, not %v", c.n, c.from, got, code, c.want)
		}
	}
	for _, n := range allNets() {
		for from := int64(1); from < n.Junctions; from++ {
			reached := map[int64]bool{from: true}
			for range n.Junctions {
				for _, d := range n.Ditches {
					if d.Flow > 0 && reached[d.From] {
						reached[d.To] = true
					}
				}
			}
			want := slices.Sorted(maps.Keys(reached))
			if got, code := impl.ReachedFrom(n, from); !slices.Equal(got, want) || code != impl.OK {
				t.Fatalf("ReachedFrom(%v, %d) = %v, %d, not %v", n, from, got, code, want)
			}
		}
	}
}

func TestGreatestFlow(t *testing.T) {
	crossed := net(4, ditch(3, 2, 1), ditch(3, 1, 1), ditch(2, 1, 1), ditch(2, 0, 1), ditch(1, 0, 1))
	cases := []struct {
		n      impl.Net
		from   int64
		flow   int64
		narrow []int64
	}{
		{net(3, ditch(2, 1, 5), ditch(1, 0, 3), ditch(2, 0, 4)), 2, 7, []int64{1, 2}},
		{net(3, ditch(2, 1, 5), ditch(1, 0, 3), ditch(2, 0, 4)), 1, 3, []int64{1}},
		{net(2), 1, 0, []int64{1}},
		{net(10), 9, 0, []int64{9}},
		{net(2, ditch(1, 0, 0)), 1, 0, []int64{1}},
		{net(2, ditch(1, 0, 1)), 1, 1, []int64{1}},
		{net(2, ditch(1, 0, 1000)), 1, 1000, []int64{1}},
		{net(2, ditch(0, 1, 1000)), 1, 0, []int64{1}},
		{net(2, ditch(0, 1, 1000), ditch(1, 0, 3)), 1, 3, []int64{1}},
		{net(3, ditch(2, 1, 5)), 2, 0, []int64{1, 2}}, // it leads nowhere
		{net(3, ditch(2, 1, 5)), 1, 0, []int64{1}},
		{net(3, ditch(2, 1, 5), ditch(2, 0, 4)), 2, 4, []int64{1, 2}},
		{net(3, ditch(2, 1, 7), ditch(1, 0, 0)), 2, 0, []int64{1, 2}},
		{net(3, ditch(2, 1, 0), ditch(1, 0, 7)), 2, 0, []int64{2}},
		{net(4, ditch(3, 2, 5), ditch(2, 1, 5), ditch(1, 3, 5)), 3, 0, []int64{1, 2, 3}},
		{net(4, ditch(3, 0, 2), ditch(0, 1, 9), ditch(1, 2, 9)), 3, 2, []int64{3}}, // beyond the outlet
		{crossed, 3, 2, []int64{3}},
		{crossed, 2, 2, []int64{2}},
		{net(4, ditch(3, 2, 9), ditch(2, 1, 9), ditch(1, 0, 9)), 3, 9, []int64{3}}, // the first of equal cuts
		{net(4, ditch(3, 2, 9), ditch(2, 1, 8), ditch(1, 0, 8)), 3, 8, []int64{2, 3}},
		{net(4, ditch(3, 2, 9), ditch(2, 1, 8), ditch(1, 0, 7)), 3, 7, []int64{1, 2, 3}},
		{detour(1, 1, 1, 2, 2), 7, 2, []int64{2, 3, 4, 7}},
		{detour(2, 1, 2, 1, 1), 7, 3, []int64{7}},
		{detour(2, 2, 2, 2, 1), 7, 3, []int64{1, 2, 3, 4, 7}},
		{fullNet(2), 1, 20000, []int64{1}},
		{fullNet(10), 9, 20000, []int64{9}},
		{chain(10, 1000), 9, 1000, []int64{9}},
		{chain(10, 0), 9, 0, []int64{9}},
	}
	for _, c := range cases {
		if got, code := impl.GreatestFlow(c.n, c.from); got != c.flow || code != impl.OK {
			t.Errorf("GreatestFlow(%v, %d) = %d, %d, not %d", c.n, c.from, got, code, c.flow)
		}
		if got, code := impl.NarrowSide(c.n, c.from); !slices.Equal(got, c.narrow) || code != impl.OK {
			t.Errorf("NarrowSide(%v, %d) = %v, %d, not %v", c.n, c.from, got, code, c.narrow)
		}
	}
}

// TestGreatestFlowIsProved is promise 5: the greatest flow is the cut of the told junctions, which
// are the only fewest ones, and flows with this sum prove it, but no other ones.
func TestGreatestFlowIsProved(t *testing.T) {
	for _, n := range allNets() {
		for from := int64(1); from < n.Junctions; from++ {
			least, fewest := leastCut(n, from)
			flow, code := impl.GreatestFlow(n, from)
			if flow != least || code != impl.OK {
				t.Fatalf("GreatestFlow(%v, %d) = %d, %d, not %d", n, from, flow, code, least)
			}
			side, code := impl.NarrowSide(n, from)
			if len(fewest) != 1 || !slices.Equal(side, fewest[0]) || code != impl.OK {
				t.Fatalf("NarrowSide(%v, %d) = %v, %d, not %v", n, from, side, code, fewest)
			}
			if cut, code := impl.CutFlow(n, side); cut != flow || code != impl.OK {
				t.Fatalf("CutFlow(%v, %v) = %d, %d, not %d", n, side, cut, code, flow)
			}
			if flow > 300 {
				continue // the flows are found cubic metre by cubic metre
			}
			for _, sum := range []int64{flow, flow - 1, flow / 2, 0} {
				if sum < 0 {
					continue
				}
				flows := flowsOf(n, from, sum)
				is, isCode := impl.IsFlow(n, from, flows)
				proof, code := impl.FlowProof(n, from, flows, side)
				if !is || isCode != impl.OK || proof != (sum == flow) || code != impl.OK {
					t.Fatalf("%v from %d with %v: %v, %d, %v, %d", n, from, flows, is, isCode, proof, code)
				}
			}
		}
	}
}

// TestGreatFlowsAreProved has the greatest flows that there can be.
func TestGreatFlowsAreProved(t *testing.T) {
	for junctions := int64(2); junctions <= 10; junctions++ {
		full, from := fullNet(junctions), junctions-1
		for _, flows := range [][]int64{filled(20, 1000), filled(20, 999), append(filled(19, 1000), 999), append(filled(19, 1000), 1001)} {
			is, one := impl.IsFlow(full, from, flows)
			proof, two := impl.FlowProof(full, from, flows, []int64{from})
			if is != (flows[19] <= 1000) || proof != slices.Equal(flows, filled(20, 1000)) || one != impl.OK || two != impl.OK {
				t.Errorf("%v: %v, %v", flows, is, proof)
			}
		}
	}
}

func TestCutFlow(t *testing.T) {
	n := net(3, ditch(2, 1, 5), ditch(1, 0, 3), ditch(2, 0, 4), ditch(0, 2, 7), ditch(2, 1, 1))
	cases := []struct {
		side []int64
		want int64
	}{
		{nil, 0}, {[]int64{}, 0}, {[]int64{0}, 7}, {[]int64{1}, 3}, {[]int64{2}, 10}, {[]int64{0, 1}, 7}, {[]int64{0, 2}, 6},
		{[]int64{1, 2}, 7}, {[]int64{0, 1, 2}, 0},
	}
	for _, c := range cases {
		if got, code := impl.CutFlow(n, c.side); got != c.want || code != impl.OK {
			t.Errorf("CutFlow(%v, %v) = %d, %d, not %d", n, c.side, got, code, c.want)
		}
	}
	for _, side := range badSides {
		if got, code := impl.CutFlow(n, side); got != 0 || code != impl.ErrRange {
			t.Errorf("CutFlow(%v, %v) = %d, %d", n, side, got, code)
		}
	}
	for _, n := range slices.Concat(randomNets(4, 5, 1000), oddNets()) {
		for _, side := range sidesOf(n) {
			if got, code := impl.CutFlow(n, side); got != cutOf(n, side) || code != impl.OK {
				t.Fatalf("CutFlow(%v, %v) = %d, %d", n, side, got, code)
			}
		}
	}
}

// TestAllFlowsOfSmallNets has all flows, also too small and too great ones, of nets with few ditches,
// and all junctions for the proof.
func TestAllFlowsOfSmallNets(t *testing.T) {
	nets := []impl.Net{
		net(2), net(3), net(2, ditch(1, 0, 2)), net(2, ditch(0, 1, 2)), net(2, ditch(1, 0, 2), ditch(0, 1, 2)),
		net(3, ditch(2, 1, 2), ditch(1, 0, 1), ditch(2, 0, 1)),
		net(3, ditch(2, 1, 2), ditch(1, 2, 1), ditch(1, 0, 2), ditch(0, 2, 1)),
		net(4, ditch(3, 2, 1), ditch(2, 1, 1), ditch(1, 3, 1), ditch(3, 0, 1)),
		net(3, ditch(2, 1, 1), ditch(2, 1, 0), ditch(1, 0, 1), ditch(1, 0, 1)),
		net(3, ditch(2, 1, 2), ditch(2, 0, 1)),
	}
	for _, n := range nets {
		all := [][]int64{nil}
		for _, d := range n.Ditches {
			var longer [][]int64
			for _, flows := range all {
				for flow := int64(-1); flow <= d.Flow+1; flow++ {
					longer = append(longer, append(slices.Clone(flows), flow))
				}
			}
			all = longer
		}
		for from := int64(1); from < n.Junctions; from++ {
			checkFlowsOf(t, n, from, all)
		}
	}
}

func checkFlowsOf(t *testing.T, n impl.Net, from int64, all [][]int64) {
	t.Helper()
	greatest := int64(0)
	for _, flows := range all {
		want, sum := leads(n, from, flows)
		if got, code := impl.IsFlow(n, from, flows); got != want || code != impl.OK {
			t.Errorf("IsFlow(%v, %d, %v) = %v, %d", n, from, flows, got, code)
		}
		greatest = max(greatest, sum)
		for _, side := range sidesOf(n) {
			proof := want && slices.Contains(side, from) && !slices.Contains(side, 0) && sum == cutOf(n, side)
			if got, code := impl.FlowProof(n, from, flows, side); got != proof || code != impl.OK {
				t.Errorf("FlowProof(%v, %d, %v, %v) = %v, %d", n, from, flows, side, got, code)
			}
		}
	}
	if got, code := impl.GreatestFlow(n, from); got != greatest || code != impl.OK {
		t.Errorf("GreatestFlow(%v, %d) = %d, %d, not %d", n, from, got, code, greatest)
	}
}

// TestOddFlows has as many flows as ditches, but of any size, and more or fewer of them.
func TestOddFlows(t *testing.T) {
	n := net(3, ditch(2, 1, 5), ditch(1, 0, 3), ditch(2, 0, 4))
	for _, a := range append([]int64{5, 6, 1000, 1001}, extremes...) {
		for _, flows := range [][]int64{{a, a, a}, {a, -a, 0}, {a, a, -a}, {a, a, 0}, {0, 0, a}} {
			want, _ := leads(n, 2, flows)
			if got, code := impl.IsFlow(n, 2, flows); got != want || code != impl.OK {
				t.Errorf("IsFlow(%v, 2, %v) = %v, %d", n, flows, got, code)
			}
			if got, code := impl.FlowProof(n, 2, flows, []int64{1, 2}); got || code != impl.OK {
				t.Errorf("FlowProof(%v, 2, %v) = %v, %d", n, flows, got, code)
			}
		}
		for _, flows := range [][]int64{nil, {}, {a}, {a, a}, {a, a, a, a}, filled(10000, a)} {
			is, one := impl.IsFlow(n, 2, flows)
			proof, two := impl.FlowProof(n, 2, flows, []int64{1, 2})
			if is || proof || one != impl.ErrRange || two != impl.ErrRange {
				t.Errorf("%v: %v, %d, %v, %d", flows, is, one, proof, two)
			}
		}
	}
	for _, side := range badSides {
		if proof, code := impl.FlowProof(n, 2, []int64{3, 3, 4}, side); proof || code != impl.ErrRange {
			t.Errorf("FlowProof with %v = %v, %d", side, proof, code)
		}
	}
}

func TestWorstDitch(t *testing.T) {
	cases := []struct {
		n    impl.Net
		from int64
		want int64
	}{
		{net(3, ditch(2, 1, 5), ditch(1, 0, 3), ditch(2, 0, 4)), 2, 2},
		{net(3, ditch(2, 1, 5), ditch(1, 0, 3), ditch(2, 0, 4)), 1, 1},
		{net(3, ditch(2, 1, 4), ditch(1, 0, 4), ditch(2, 0, 4)), 2, 0}, // the first one of equal ones
		{net(3, ditch(2, 1, 3), ditch(1, 0, 4), ditch(2, 0, 4)), 2, 2},
		{net(2, ditch(0, 1, 9), ditch(1, 0, 1)), 1, 1},
		{net(2, ditch(0, 1, 9)), 1, 0}, // none makes a difference
		{net(3, ditch(2, 1, 9), ditch(2, 1, 9)), 2, 0},
		{net(2, ditch(1, 0, 2), ditch(1, 0, 3), ditch(1, 0, 3)), 1, 1},
		{fullNet(10), 9, 0},
		{chain(10, 1), 9, 0},
		{chain(10, 1), 5, 0},
		{net(2, append(filledDitches(19, ditch(1, 0, 1)), ditch(1, 0, 2))...), 1, 19},
	}
	for _, c := range cases {
		if got, code := impl.WorstDitch(c.n, c.from); got != c.want || code != impl.OK {
			t.Errorf("WorstDitch(%v, %d) = %d, %d, not %d", c.n, c.from, got, code, c.want)
		}
	}
	for _, n := range slices.Concat(randomNets(5, 4, 3), randomNets(6, 4, 1000), oddNets()) {
		for from := int64(1); from < n.Junctions; from++ {
			want, least := int64(0), int64(math.MaxInt64)
			for k := range n.Ditches {
				closed, _ := leastCut(net(n.Junctions, slices.Delete(slices.Clone(n.Ditches), k, k+1)...), from)
				if closed < least {
					want, least = int64(k), closed
				}
			}
			wantCode := int64(impl.OK)
			if len(n.Ditches) == 0 {
				wantCode = impl.ErrNotFound
			}
			if got, code := impl.WorstDitch(n, from); got != want || code != wantCode {
				t.Fatalf("WorstDitch(%v, %d) = %d, %d, not %d, %d", n, from, got, code, want, wantCode)
			}
		}
	}
}

func filledDitches(many int, d impl.Ditch) []impl.Ditch { return slices.Repeat([]impl.Ditch{d}, many) }

// netCalls are all functions of chapter 4 that return a code, with their results as texts, and the
// code at the end.
func netCalls(n impl.Net, a int64, d impl.Ditch, flows, side []int64) map[string]string {
	return map[string]string{
		"AddDitch":     fmt.Sprint(impl.AddDitch(n, d)),
		"CloseDitch":   fmt.Sprint(impl.CloseDitch(n, a)),
		"ReachedFrom":  fmt.Sprint(impl.ReachedFrom(n, a)),
		"GreatestFlow": fmt.Sprint(impl.GreatestFlow(n, a)),
		"CutFlow":      fmt.Sprint(impl.CutFlow(n, side)),
		"NarrowSide":   fmt.Sprint(impl.NarrowSide(n, a)),
		"IsFlow":       fmt.Sprint(impl.IsFlow(n, a, flows)),
		"FlowProof":    fmt.Sprint(impl.FlowProof(n, a, flows, side)),
		"WorstDitch":   fmt.Sprint(impl.WorstDitch(n, a)),
	}
}

// noNetResults are the zero values of the results of netCalls.
var noNetResults = map[string]string{
	"AddDitch": "{0 []}", "CloseDitch": "{0 []}", "ReachedFrom": "[]", "GreatestFlow": "0", "CutFlow": "0",
	"NarrowSide": "[]", "IsFlow": "false", "FlowProof": "false", "WorstDitch": "0",
}

// TestInvalidNets has ErrInvalid come before all other errors.
func TestInvalidNets(t *testing.T) {
	for _, n := range badNets() {
		for _, a := range append([]int64{2, 3, 10, 20}, extremes...) {
			for _, list := range [][]int64{nil, {1}, {2}, {0, 1}, {1, 0}, filled(len(n.Ditches), 0), {a}, {a, a}, extremes} {
				for _, d := range []impl.Ditch{{}, ditch(1, 0, 1), ditch(a, a, a), ditch(a, 0, 1)} {
					for name, got := range netCalls(n, a, d, list, list) {
						if got != noNetResults[name]+" 1" {
							t.Fatalf("%s(%v) with %d, %v and %v: %s", name, n, a, d, list, got)
						}
					}
				}
			}
		}
		if text := impl.NetText(n); text != "" {
			t.Errorf("NetText(%v) = %q", n, text)
		}
	}
}

// TestNoStarts has numbers from which no water can be led, the outlet first; ErrRange comes before ErrNotFound.
func TestNoStarts(t *testing.T) {
	starts := []string{"ReachedFrom", "GreatestFlow", "NarrowSide", "IsFlow", "FlowProof", "WorstDitch"}
	for _, n := range []impl.Net{net(2), chain(2, 1), chain(5, 1), net(5), chain(10, 1), fullNet(10)} {
		for _, from := range append([]int64{n.Junctions, n.Junctions + 1, n.Junctions - 1}, extremes...) {
			flows := filled(len(n.Ditches), 0)
			results := netCalls(n, from, ditch(1, 0, 1), flows, []int64{1})
			for _, name := range starts {
				isStart := from >= 1 && from < n.Junctions
				if got := results[name]; (got == noNetResults[name]+" 2") == isStart {
					t.Errorf("%s(%v, %d): %s", name, n, from, got)
				}
			}
		}
	}
}

func TestNetsAreReadBack(t *testing.T) {
	for _, n := range allNets() {
		text := netsText(n)
		if got := impl.NetText(n); got != text {
			t.Errorf("NetText(%v) = %q, not %q", n, got, text)
		}
		if got, ok := impl.ReadNet(text); !impl.SameNet(got, n) || !ok {
			t.Errorf("ReadNet(%q) = %v, %v", text, got, ok)
		}
	}
}

func TestNoTextsOfNets(t *testing.T) {
	no := []string{
		"2", ":", " :", "2 :", " 2:", "2: ", "2:\n", "1:", "11:", "0:", "-2:", "+2:", "02:", "a:", "2::", "2:1>0=1", "2:  1>0=1", "2: 1>0=1 ",
		"2: 1>0", "2: 1>0=", "2: 1=0>1", "2: >0=1", "2: 1>=1", "2: 1>0=1=1", "2: 1>0>1=1", "2: 1 >0=1", "2: 1> 0=1", "2: 1>0 =1", "2: 1>0= 1",
		"2: 1>0=01", "2: 01>0=1", "2: 1>00=1", "2: 1>0=+1", "2: 1>0=-1", "2: 1>0=-0", "2: -1>0=1", "2: 1>-0=1", "2: 1>0=1001", "2: 1>1=1",
		"2: 0>0=1", "2: 2>0=1", "2: 0>2=1", "3: 2>1=5  1>0=3", "3: 2>1=51>0=3", "3: 2>1=5,1>0=3", "3: 2>1=5\t1>0=3", "3: 2>1=5\n1>0=3",
		"3 2>1=5", "2: 1>0=x", "2: x", "2: >", "2: =", "2: >=", "2: 1", "2: 1>0=1;", "2:\x00", "2: 1>0=9223372036854775808", "9223372036854775808:",
		"2: 1>0=999999999999999999", "2: 18446744073709551617>0=1", "２:", "2:\u00a01>0=1", "3: 2>1=5: 1>0=3", "3: 2>1=5 3: 1>0=3",
		"2:" + strings.Repeat(" 1>0=1", 21), "2:" + strings.Repeat(" 1>0=1", 5000), strings.Repeat(":", 5000), "2:" + strings.Repeat(" ", 5000),
		"2: 1" + strings.Repeat(">", 5000), "2:" + strings.Repeat(" 1>0=1", 20) + " ", "10: 9>10=1", "10: 10>9=1",
	}
	checkNotRead(t, no, impl.ReadNet, isZeroNet)
}

func TestReadNetOnChanges(t *testing.T) {
	texts := []string{"3: 2>1=5 1>0=3 2>0=4", "2:", "10: 9>0=1000", "2: 0>1=0", "4: 1>2=10"}
	checkReader(t, texts, impl.ReadNet, textOfValidNet, isZeroNet)
}

func isZeroNet(n impl.Net) bool { return impl.SameNet(n, impl.Net{}) }

// textOfValidNet writes a net by the definition of its text, if it is valid.
func textOfValidNet(n impl.Net) string {
	if !impl.ValidNet(n) {
		return "no net"
	}
	return netsText(n)
}

// TestNetFunctionsArePure is promise 1 for all functions of chapter 4 with a net: they return, change
// nothing, and give the same once more; with an error, everything else is zero.
func TestNetFunctionsArePure(t *testing.T) {
	mark := ditch(spareMark, spareMark, spareMark)
	for _, n := range slices.Concat(badNets(), randomNets(7, 3, 5), oddNets(), []impl.Net{chain(10, 1), fullNet(3)}) {
		for i, a := range append([]int64{2, 9, 10, 19, 20}, extremes...) {
			d := ditch(a, (a+1)&1, int64(i))
			for _, lists := range [][2][]int64{{nil, nil}, {filled(len(n.Ditches), 0), {1, 2}}, {filled(len(n.Ditches), 1), {a}}, {extremes, extremes}} {
				ditches, same := guarded(t, n.Ditches, mark)
				flows, sameFlows := guarded(t, lists[0], spareMark)
				side, sameSide := guarded(t, lists[1], spareMark)
				with := impl.Net{Junctions: n.Junctions, Ditches: ditches}
				first := netCalls(with, a, d, flows, side)
				if valid := impl.ValidNet(with); impl.NetText(with) != impl.NetText(n) || !impl.SameNet(with, n) || valid != impl.ValidNet(n) {
					t.Fatalf("%v differs from itself", n)
				}
				same()
				sameFlows()
				sameSide()
				if again := netCalls(n, a, d, slices.Clone(lists[0]), slices.Clone(lists[1])); !maps.Equal(first, again) {
					t.Fatalf("%v, %d: %v is followed by %v", n, a, first, again)
				}
				for name, got := range first {
					checkZero(t, name, got, noNetResults[name])
				}
			}
		}
	}
}

// TestNetResultsAreNew is promise 1 as well: no result shares memory with an argument or another result.
func TestNetResultsAreNew(t *testing.T) {
	mark := ditch(spareMark, spareMark, spareMark)
	for _, n := range append(randomNets(8, 3, 5), oddNets()...) {
		ditches, same := guarded(t, n.Ditches, mark)
		with := impl.Net{Junctions: n.Junctions, Ditches: ditches}
		checkFresh(t, func() []impl.Ditch { more, _ := impl.AddDitch(with, ditch(1, 0, 7)); return more.Ditches }, ditch(-1, -1, -1), same)
		for k := range n.Ditches {
			checkFresh(t, func() []impl.Ditch { less, _ := impl.CloseDitch(with, int64(k)); return less.Ditches }, ditch(-1, -1, -1), same)
		}
		for from := range n.Junctions {
			checkFresh(t, func() []int64 { reached, _ := impl.ReachedFrom(with, from); return reached }, -spareMark, same)
			checkFresh(t, func() []int64 { side, _ := impl.NarrowSide(with, from); return side }, -spareMark, same)
		}
		text := netsText(n)
		checkFresh(t, func() []impl.Ditch { read, _ := impl.ReadNet(text); return read.Ditches }, ditch(-1, -1, -1), same)
	}
	for _, text := range oddTexts {
		first, ok := impl.ReadNet(text)
		if again, okAgain := impl.ReadNet(strings.Clone(text)); !impl.SameNet(first, again) || ok != okAgain {
			t.Errorf("ReadNet of %q differs", text)
		}
	}
}
