package tests

import (
	"fmt"
	"maps"
	"math"
	"math/rand"
	"runtime"
	"slices"
	"strings"
	"testing"
	"time"

	"loop.example/g01032/impl"
)

// mills returns mills, each of them told by its four numbers.
func mills(numbers ...int64) []impl.Mill {
	var list []impl.Mill
	for four := range slices.Chunk(numbers, 4) {
		list = append(list, impl.Mill{Lift: four[0], Rate: four[1], Low: four[2], High: four[3]})
	}
	return list
}

// steadyMills returns mills with these rates at the force 5, and at no other one.
func steadyMills(rates ...int64) []impl.Mill {
	var list []impl.Mill
	for _, rate := range rates {
		list = append(list, impl.Mill{Lift: 100, Rate: rate, Low: 5, High: 5})
	}
	return list
}

// evenMills returns many mills that are the same.
func evenMills(many int, m impl.Mill) []impl.Mill { return slices.Repeat([]impl.Mill{m}, many) }

// exampleMills are the mill of the document's example and another one.
func exampleMills() []impl.Mill { return mills(150, 600, 4, 6, 100, 300, 3, 5) }

// exampleStages are two stages with different mills.
func exampleStages() [][]impl.Mill { return [][]impl.Mill{exampleMills(), mills(200, 900, 5, 8)} }

// limitMills are valid mills that reach a limit.
func limitMills() []impl.Mill {
	return mills(
		1, 1, 1, 1, 500, 10000, 12, 12, 1, 10000, 1, 12, 500, 1, 1, 12, 500, 10000, 1, 1, 1, 1, 12, 12, 250, 9999, 6, 6,
		7, 11, 1, 12, 7, 12, 1, 12, 7, 13, 1, 12, 499, 5000, 1, 11, 2, 2, 2, 12, 3, 7, 11, 12, 150, 600, 4, 6,
	)
}

// badMills are mills that are not valid.
func badMills() []impl.Mill {
	bad := mills(
		0, 0, 0, 0, 0, 600, 4, 6, 501, 600, 4, 6, -1, 600, 4, 6, 150, 0, 4, 6, 150, -1, 4, 6, 150, 10001, 4, 6,
		150, 600, 0, 6, 150, 600, -1, 6, 150, 600, 4, 13, 150, 600, 5, 4, 150, 600, 12, 1, 150, 600, 13, 13, 150, 600, 0, 0, 150, 600, 13, 12,
		150, 600, 4, 0, 150, 600, 4, -6, 501, 10001, 0, 13, 150, 600, math.MinInt64, math.MaxInt64, 150, 600, math.MaxInt64, math.MinInt64,
	)
	for _, n := range extremes {
		if n < 0 || n > 1 {
			bad = append(bad, mills(n, 600, 4, 6, 150, n, 4, 6, 150, 600, n, 6, 150, 600, 4, n, 150, 600, n, n, n, n, n, n)...)
		}
	}
	return bad
}

// randomMills returns as many mills as told, with rates up to one.
func randomMills(source *rand.Rand, many int, rate int64) []impl.Mill {
	list := make([]impl.Mill, many)
	for k := range list {
		low := 1 + source.Int63n(12)
		list[k] = impl.Mill{Lift: 1 + source.Int63n(500), Rate: 1 + source.Int63n(rate), Low: low, High: low + source.Int63n(13-low)}
	}
	return list
}

// manyMills are lists of 1 to 8 mills, always the same ones, with few different rates and with many.
func manyMills() [][]impl.Mill {
	source := rand.New(rand.NewSource(1))
	lists := [][]impl.Mill{exampleMills(), limitMills()[:8], limitMills()[5:13], steadyMills(3, 1, 2, 2), steadyMills(5, 5, 5, 5, 5, 5, 5, 5), steadyMills(1, 2, 4, 8, 16, 32, 64, 128)}
	for _, m := range limitMills() {
		lists = append(lists, []impl.Mill{m}, evenMills(2, m), evenMills(8, m))
	}
	for many := 1; many <= 8; many++ {
		for _, rate := range []int64{2, 5, 40, 10000} {
			lists = append(lists, randomMills(source, many, rate), randomMills(source, many, rate))
		}
	}
	return lists
}

// manyStages are stages, always the same ones: of one to four lists with up to eight mills.
func manyStages() [][][]impl.Mill {
	source := rand.New(rand.NewSource(2))
	all := [][][]impl.Mill{exampleStages(), fullStages(), {mills(5, 7, 1, 2), mills(5, 7, 3, 4)}, {mills(5, 7, 1, 1)}, {mills(5, 7, 12, 12)}}
	for _, list := range manyMills() {
		all = append(all, [][]impl.Mill{list})
	}
	for many := 1; many <= 4; many++ {
		for _, rate := range []int64{2, 5, 40, 10000} {
			for range 10 {
				var stages [][]impl.Mill
				for range many {
					stages = append(stages, randomMills(source, 1+source.Intn(8), rate))
				}
				all = append(all, stages)
			}
		}
	}
	return all
}

// fullStages are as many stages as there can be, with as many mills as there can be, which lift as much as they can.
func fullStages() [][]impl.Mill {
	return slices.Repeat([][]impl.Mill{evenMills(8, impl.Mill{Lift: 500, Rate: 10000, Low: 1, High: 1})}, 4)
}

// badLists are lists of mills that cannot be a stage.
func badLists() [][]impl.Mill {
	lists := [][]impl.Mill{nil, {}, evenMills(9, exampleMills()[0]), evenMills(10000, exampleMills()[0]), evenMills(8, impl.Mill{})}
	for _, m := range badMills() {
		lists = append(lists, []impl.Mill{m}, append(exampleMills(), m), append([]impl.Mill{m}, exampleMills()...), append(evenMills(7, exampleMills()[0]), m))
	}
	return lists
}

// badStages are lists that are no stages.
func badStages() [][][]impl.Mill {
	all := [][][]impl.Mill{nil, {}, slices.Repeat(exampleStages()[:1], 5), slices.Repeat(exampleStages()[:1], 10000), slices.Repeat([][]impl.Mill{nil}, 4)}
	for _, list := range badLists() {
		all = append(all, [][]impl.Mill{list}, append(exampleStages(), list), append([][]impl.Mill{list}, exampleStages()...), append(fullStages()[:3], list))
	}
	return all
}

func copyOfStages(stages [][]impl.Mill) [][]impl.Mill {
	var copies [][]impl.Mill
	for _, list := range stages {
		copies = append(copies, slices.Clip(slices.Clone(list)))
	}
	return slices.Clip(copies)
}

// isValidMill tells by the definition whether a mill is valid.
func isValidMill(m impl.Mill) bool {
	return m.Lift >= 1 && m.Lift <= 500 && m.Rate >= 1 && m.Rate <= 10000 && m.Low >= 1 && m.Low <= m.High && m.High <= 12
}

// isValidStage tells by the definition whether mills can be a stage.
func isValidStage(list []impl.Mill) bool {
	return len(list) >= 1 && len(list) <= 8 && !slices.ContainsFunc(list, func(m impl.Mill) bool { return !isValidMill(m) })
}

// rateBy is what a mill lifts by the definition: as many whole parts as there are.
func rateBy(m impl.Mill, force int64) int64 {
	if force < m.Low || force > m.High {
		return 0
	}
	part, parts := force-m.Low+1, m.High-m.Low+1
	rate := int64(0)
	for (rate+1)*parts <= m.Rate*part {
		rate++
	}
	return rate
}

// ratesBy are what some mills lift by the definition.
func ratesBy(list []impl.Mill, force int64) []int64 {
	var rates []int64
	for _, m := range list {
		rates = append(rates, rateBy(m, force))
	}
	return rates
}

// stageRatesBy are what stages lift by the definition.
func stageRatesBy(stages [][]impl.Mill, force int64) []int64 {
	var rates []int64
	for _, list := range stages {
		rates = append(rates, totalOf(ratesBy(list, force)))
	}
	return rates
}

// throughBy is what all stages lift by the definition.
func throughBy(stages [][]impl.Mill, force int64) int64 {
	return slices.Min(stageRatesBy(stages, force))
}

// fewestBy are the fewest mills by the definition: of all sets of indices with one more mill each time, in their order, the
// first one with enough; nil if there is none.
func fewestBy(rates []int64, rate int64) []int64 {
	for many := range len(rates) + 1 {
		if found := firstSet(rates, nil, many, rate); found != nil {
			return found
		}
	}
	return nil
}

// firstSet is the first set with as many more indices behind those of begun that lift what is missing.
func firstSet(rates, begun []int64, more int, missing int64) []int64 {
	if more == 0 {
		if missing > 0 {
			return nil
		}
		return begun
	}
	next := int64(0)
	if len(begun) > 0 {
		next = begun[len(begun)-1] + 1
	}
	for ; next < int64(len(rates)); next++ {
		if found := firstSet(rates, append(slices.Clone(begun), next), more-1, missing-rates[next]); found != nil {
			return found
		}
	}
	return nil
}

// zerosAndOnes are all lists with as many numbers, which are 0 or 1, in their order.
func zerosAndOnes(many int) [][]int64 {
	lists := [][]int64{nil}
	for range many {
		var longer [][]int64
		for _, list := range lists {
			longer = append(longer, append(slices.Clone(list), 0), append(slices.Clone(list), 1))
		}
		lists = longer
	}
	return lists
}

// liftedBy is what is lifted by a division of mills into two stages.
func liftedBy(rates, list []int64) int64 {
	zero, one := int64(0), int64(0)
	for k, rate := range rates {
		if list[k] == 1 {
			one += rate
		} else {
			zero += rate
		}
	}
	return min(zero, one)
}

// splitBy is the best division by the definition, and what it lifts.
func splitBy(rates []int64) ([]int64, int64) {
	var best []int64
	for _, list := range zerosAndOnes(len(rates)) {
		isDivision := slices.Contains(list, 0) && slices.Contains(list, 1)
		if isDivision && (best == nil || liftedBy(rates, list) > liftedBy(rates, best)) {
			best = list
		}
	}
	return best, liftedBy(rates, best)
}

// hoursBy is the number of hours by the definition; -1 if there is none.
func hoursBy(stages [][]impl.Mill, forces []int64, volume int64) int64 {
	lifted := int64(0)
	for hours := range len(forces) + 1 {
		if lifted >= volume {
			return int64(hours)
		}
		if hours < len(forces) {
			lifted += throughBy(stages, forces[hours])
		}
	}
	return -1
}

func TestMillConstants(t *testing.T) {
	if impl.MaxMills != 8 || impl.MaxStages != 4 || impl.MaxForce != 12 || impl.MaxRate != 10000 || impl.MaxLift != 500 {
		t.Error("a limit is wrong")
	}
}

func TestValidMill(t *testing.T) {
	checkValidity(t, impl.ValidMill, limitMills(), badMills())
	for _, n := range append([]int64{2, 11, 12, 13, 499, 500, 501, 9999, 10000, 10001}, extremes...) {
		for _, m := range mills(n, 600, 4, 6, 150, n, 4, 6, 150, 600, n, 6, 150, 600, 4, n, 150, 600, n, n, 150, 600, n, 12, 150, 600, 1, n) {
			if got := impl.ValidMill(m); got != isValidMill(m) {
				t.Errorf("ValidMill(%v) = %v", m, got)
			}
		}
	}
	for low := int64(-1); low <= 14; low++ {
		for high := int64(-1); high <= 14; high++ {
			if got := impl.ValidMill(impl.Mill{Lift: 1, Rate: 1, Low: low, High: high}); got != (low >= 1 && low <= high && high <= 12) {
				t.Errorf("the forces %d to %d: %v", low, high, got)
			}
		}
	}
}

func TestValidStages(t *testing.T) {
	checkValidity(t, impl.ValidStages, manyStages(), badStages())
	for stages := range 7 {
		for many := range 11 {
			all := slices.Repeat([][]impl.Mill{evenMills(many, exampleMills()[0])}, stages)
			if got := impl.ValidStages(all); got != (stages >= 1 && stages <= 4 && many >= 1 && many <= 8) {
				t.Errorf("%d stages of %d mills: %v", stages, many, got)
			}
		}
	}
}

// TestValidStagesByMill puts a mill that is not valid, and a list with too few or too many mills, at each place.
func TestValidStagesByMill(t *testing.T) {
	for k := range 4 {
		for i := range 8 {
			for _, m := range badMills() {
				stages := copyOfStages(fullStages())
				stages[k][i] = m
				if impl.ValidStages(stages) {
					t.Errorf("the mill %v at %d, %d is told to be valid", m, k, i)
				}
			}
		}
		for _, many := range []int{0, 1, 7, 8, 9} {
			stages := copyOfStages(fullStages())
			stages[k] = evenMills(many, exampleMills()[0])
			if got := impl.ValidStages(stages); got != (many >= 1 && many <= 8) {
				t.Errorf("%d mills at %d: %v", many, k, got)
			}
		}
	}
}

func TestSameStages(t *testing.T) {
	first, second := exampleMills()[:1], exampleMills()[1:]
	different := [][][]impl.Mill{
		nil, {nil}, {nil, nil}, {first}, {second}, {first, second}, {second, first}, {first, nil}, {nil, first}, {exampleMills()}, {first, first}, {append(first, first...)},
		{mills(151, 600, 4, 6)}, {mills(150, 601, 4, 6)}, {mills(150, 600, 3, 6)}, {mills(150, 600, 4, 7)}, {mills(0, 0, 0, 0)}, {mills(0, 0, 0, 0, 0, 0, 0, 0)},
		{mills(math.MinInt64, 0, 0, 0)}, {mills(0, 0, 0, math.MaxInt64)}, fullStages(), append(fullStages(), first), {first, second, second}, {first, second, exampleMills()},
	}
	checkDiffer(t, different, copyOfStages, impl.SameStages)
	empty := [][]impl.Mill{{}, {}}
	if !impl.SameStages(nil, [][]impl.Mill{}) || !impl.SameStages([][]impl.Mill{}, nil) || !impl.SameStages([][]impl.Mill{nil, {}}, empty) || !impl.SameStages(empty, [][]impl.Mill{nil, nil}) {
		t.Error("nil and empty lists are told to differ")
	}
	if impl.SameStages(nil, [][]impl.Mill{nil}) || impl.SameStages([][]impl.Mill{{}}, [][]impl.Mill{}) {
		t.Error("an empty stage is told to be none")
	}
}

func TestMillRate(t *testing.T) {
	example, slow := exampleMills()[0], impl.Mill{Lift: 1, Rate: 1, Low: 1, High: 12}
	fast, single := impl.Mill{Lift: 500, Rate: 10000, Low: 1, High: 12}, impl.Mill{Lift: 5, Rate: 7, Low: 12, High: 12}
	cases := []struct {
		mill              impl.Mill
		force, want, code int64
	}{
		{example, 5, 400, impl.OK},
		{example, 3, 0, impl.OK},
		{example, 4, 200, impl.OK},
		{example, 6, 600, impl.OK},
		{example, 7, 0, impl.OK},
		{example, 0, 0, impl.OK},
		{example, 12, 0, impl.OK},
		{example, 13, 0, impl.ErrRange},
		{example, -1, 0, impl.ErrRange},
		{example, math.MaxInt64, 0, impl.ErrRange},
		{example, math.MinInt64, 0, impl.ErrRange},
		{slow, 0, 0, impl.OK},
		{slow, 1, 0, impl.OK},
		{slow, 11, 0, impl.OK},
		{slow, 12, 1, impl.OK},
		{fast, 0, 0, impl.OK},
		{fast, 1, 833, impl.OK},
		{fast, 2, 1666, impl.OK},
		{fast, 3, 2500, impl.OK},
		{fast, 12, 10000, impl.OK},
		{single, 11, 0, impl.OK},
		{single, 12, 7, impl.OK},
		{impl.Mill{Lift: 5, Rate: 5, Low: 2, High: 4}, 2, 1, impl.OK},
		{impl.Mill{Lift: 5, Rate: 5, Low: 2, High: 4}, 3, 3, impl.OK},
		{impl.Mill{Lift: 5, Rate: 5, Low: 2, High: 4}, 4, 5, impl.OK},
		{impl.Mill{}, 0, 0, impl.ErrInvalid},
		{impl.Mill{}, 13, 0, impl.ErrInvalid},
		{impl.Mill{Lift: 150, Rate: 600, Low: 6, High: 4}, 5, 0, impl.ErrInvalid},
		{impl.Mill{Lift: 150, Rate: 600, Low: 1, High: 13}, -1, 0, impl.ErrInvalid},
	}
	for _, c := range cases {
		if got, code := impl.MillRate(c.mill, c.force); got != c.want || code != c.code {
			t.Errorf("MillRate(%v, %d) = %d, %d", c.mill, c.force, got, code)
		}
	}
	for _, m := range slices.Concat(slices.Concat(manyMills()...), limitMills()) {
		for force := range int64(13) {
			if got, code := impl.MillRate(m, force); got != rateBy(m, force) || code != impl.OK {
				t.Errorf("MillRate(%v, %d) = %d, %d, not %d", m, force, got, code, rateBy(m, force))
			}
		}
	}
}

func TestStagesAtForces(t *testing.T) {
	apart := [][]impl.Mill{mills(5, 7, 1, 2), mills(5, 7, 3, 4)}
	cases := []struct {
		stages        [][]impl.Mill
		force         int64
		rates         []int64
		through, weak int64
	}{
		{exampleStages(), 5, []int64{700, 225}, 225, 1},
		{exampleStages(), 6, []int64{600, 450}, 450, 1},
		{exampleStages(), 4, []int64{400, 0}, 0, 1},
		{exampleStages(), 3, []int64{100, 0}, 0, 1},
		{exampleStages(), 7, []int64{0, 675}, 0, 0},
		{exampleStages(), 0, []int64{0, 0}, 0, 0},
		{exampleStages(), 12, []int64{0, 0}, 0, 0},
		{apart, 2, []int64{7, 0}, 0, 1},
		{apart, 4, []int64{0, 7}, 0, 0},
		{[][]impl.Mill{steadyMills(3), steadyMills(2), steadyMills(1, 1), steadyMills(4)}, 5, []int64{3, 2, 2, 4}, 2, 1},
		{[][]impl.Mill{steadyMills(3), steadyMills(4), steadyMills(5), steadyMills(1, 1)}, 5, []int64{3, 4, 5, 2}, 2, 3},
		{[][]impl.Mill{steadyMills(9)}, 5, []int64{9}, 9, 0},
		{fullStages(), 1, filled(4, 80000), 80000, 0},
		{fullStages(), 2, filled(4, 0), 0, 0},
	}
	for _, c := range cases {
		if got, code := impl.StageRates(c.stages, c.force); !slices.Equal(got, c.rates) || code != impl.OK {
			t.Errorf("StageRates(%v, %d) = %v, %d", c.stages, c.force, got, code)
		}
		if got, code := impl.ThroughOf(c.stages, c.force); got != c.through || code != impl.OK {
			t.Errorf("ThroughOf(%v, %d) = %d, %d", c.stages, c.force, got, code)
		}
		if got, code := impl.WeakestStage(c.stages, c.force); got != c.weak || code != impl.OK {
			t.Errorf("WeakestStage(%v, %d) = %d, %d", c.stages, c.force, got, code)
		}
	}
}

// TestStagesByDefinition holds what stages lift at all forces, and their total lift, against the definitions.
func TestStagesByDefinition(t *testing.T) {
	for _, stages := range manyStages() {
		for force := range int64(13) {
			want := stageRatesBy(stages, force)
			if got, code := impl.StageRates(stages, force); !slices.Equal(got, want) || code != impl.OK {
				t.Fatalf("StageRates(%v, %d) = %v, %d, not %v", stages, force, got, code, want)
			}
			if got, code := impl.ThroughOf(stages, force); got != slices.Min(want) || code != impl.OK {
				t.Fatalf("ThroughOf(%v, %d) = %d, %d, not the least of %v", stages, force, got, code, want)
			}
			weak, code := impl.WeakestStage(stages, force)
			if weak < 0 || weak >= int64(len(want)) || want[weak] != slices.Min(want) || slices.Contains(want[:weak], want[weak]) || code != impl.OK {
				t.Fatalf("WeakestStage(%v, %d) = %d, %d, with %v", stages, force, weak, code, want)
			}
		}
		lift := int64(0)
		for _, list := range stages {
			least := list[0].Lift
			for _, m := range list {
				if m.Lift < least {
					least = m.Lift
				}
			}
			lift += least
		}
		if got, code := impl.TotalLift(stages); got != lift || code != impl.OK {
			t.Fatalf("TotalLift(%v) = %d, %d, not %d", stages, got, code, lift)
		}
	}
}

func TestTotalLift(t *testing.T) {
	cases := []struct {
		stages     [][]impl.Mill
		want, code int64
	}{
		{exampleStages(), 300, impl.OK},
		{exampleStages()[:1], 100, impl.OK},
		{exampleStages()[1:], 200, impl.OK},
		{[][]impl.Mill{mills(1, 1, 1, 1)}, 1, impl.OK},
		{[][]impl.Mill{mills(9, 1, 1, 1, 3, 1, 1, 1, 7, 1, 1, 1), mills(5, 1, 1, 1), mills(5, 1, 1, 1, 6, 1, 1, 1)}, 13, impl.OK},
		{fullStages(), 2000, impl.OK},
		{append(fullStages(), fullStages()[0]), 0, impl.ErrInvalid},
		{nil, 0, impl.ErrInvalid},
		{[][]impl.Mill{}, 0, impl.ErrInvalid},
		{[][]impl.Mill{nil}, 0, impl.ErrInvalid},
		{[][]impl.Mill{mills(501, 1, 1, 1)}, 0, impl.ErrInvalid},
	}
	for _, c := range cases {
		if got, code := impl.TotalLift(c.stages); got != c.want || code != c.code {
			t.Errorf("TotalLift(%v) = %d, %d", c.stages, got, code)
		}
	}
}

func TestBestForce(t *testing.T) {
	cases := []struct {
		stages            [][]impl.Mill
		force, most, code int64
	}{
		{exampleStages(), 6, 450, impl.OK},
		{exampleStages()[:1], 5, 700, impl.OK},
		{exampleStages()[1:], 8, 900, impl.OK},
		// Of forces with as much, the least one.
		{[][]impl.Mill{mills(5, 7, 2, 2, 5, 7, 9, 9)}, 2, 7, impl.OK},
		{[][]impl.Mill{mills(5, 7, 9, 9, 5, 7, 2, 2)}, 2, 7, impl.OK},
		{[][]impl.Mill{mills(5, 1, 1, 12)}, 12, 1, impl.OK},
		{[][]impl.Mill{mills(5, 2, 1, 12)}, 12, 2, impl.OK},
		{[][]impl.Mill{mills(5, 7, 1, 1)}, 1, 7, impl.OK},
		{[][]impl.Mill{mills(5, 7, 12, 12)}, 12, 7, impl.OK},
		// Where nothing is lifted at any force, it is lifted at the force 0 as well.
		{[][]impl.Mill{mills(5, 7, 1, 2), mills(5, 7, 3, 4)}, 0, 0, impl.OK},
		{[][]impl.Mill{mills(5, 1, 1, 2), mills(5, 1, 1, 1)}, 0, 0, impl.OK},
		{fullStages(), 1, 80000, impl.OK},
		{nil, 0, 0, impl.ErrInvalid},
		{[][]impl.Mill{}, 0, 0, impl.ErrInvalid},
		{[][]impl.Mill{{}}, 0, 0, impl.ErrInvalid},
		{[][]impl.Mill{mills(5, 7, 0, 1)}, 0, 0, impl.ErrInvalid},
		{append(fullStages(), exampleMills()), 0, 0, impl.ErrInvalid},
	}
	for _, c := range cases {
		if force, most, code := impl.BestForce(c.stages); force != c.force || most != c.most || code != c.code {
			t.Errorf("BestForce(%v) = %d, %d, %d", c.stages, force, most, code)
		}
	}
}

// TestNoForceIsBetter is promise 11 for forces: at no one more is lifted than at the told one, and at no lesser one as much.
func TestNoForceIsBetter(t *testing.T) {
	for _, stages := range manyStages() {
		best, most, code := impl.BestForce(stages)
		if code != impl.OK || best < 0 || best > 12 || most != throughBy(stages, best) {
			t.Fatalf("BestForce(%v) = %d, %d, %d", stages, best, most, code)
		}
		for force := range int64(13) {
			through, _ := impl.ThroughOf(stages, force)
			if through > most || through == most && force < best || through != throughBy(stages, force) {
				t.Fatalf("BestForce(%v) = %d, %d, but %d at %d", stages, best, most, through, force)
			}
		}
	}
}

func TestFewestMills(t *testing.T) {
	cases := []struct {
		mills       []impl.Mill
		force, rate int64
		want        []int64
		code        int64
	}{
		{exampleMills(), 5, 600, []int64{0, 1}, impl.OK},
		{exampleMills(), 5, 700, []int64{0, 1}, impl.OK},
		{exampleMills(), 5, 701, nil, impl.ErrNotFound},
		{exampleMills(), 5, 800, nil, impl.ErrNotFound},
		{exampleMills(), 5, 401, []int64{0, 1}, impl.OK},
		{exampleMills(), 5, 400, []int64{0}, impl.OK},
		{exampleMills(), 5, 300, []int64{0}, impl.OK},
		{exampleMills(), 5, 1, []int64{0}, impl.OK},
		{exampleMills(), 3, 1, []int64{1}, impl.OK},
		{exampleMills(), 3, 100, []int64{1}, impl.OK},
		{exampleMills(), 3, 101, nil, impl.ErrNotFound},
		{exampleMills(), 7, 1, nil, impl.ErrNotFound},
		{exampleMills(), 0, 1, nil, impl.ErrNotFound},
		{exampleMills(), 12, 80000, nil, impl.ErrNotFound},
		{exampleMills(), 13, 600, nil, impl.ErrRange},
		{exampleMills(), -1, 600, nil, impl.ErrRange},
		{exampleMills(), 5, 0, nil, impl.ErrRange},
		{exampleMills(), 5, -1, nil, impl.ErrRange},
		{exampleMills(), 5, 80001, nil, impl.ErrRange},
		{exampleMills(), 5, 80000, nil, impl.ErrNotFound},
		{exampleMills(), 5, math.MaxInt64, nil, impl.ErrRange},
		{exampleMills(), math.MinInt64, 5, nil, impl.ErrRange},
		// Of several sets, the first one, not the one that lifts most.
		{steadyMills(3, 1, 2, 2), 5, 4, []int64{0, 1}, impl.OK},
		{steadyMills(3, 1, 2, 2), 5, 5, []int64{0, 2}, impl.OK},
		{steadyMills(3, 1, 2, 2), 5, 3, []int64{0}, impl.OK},
		{steadyMills(3, 1, 2, 2), 5, 6, []int64{0, 1, 2}, impl.OK},
		{steadyMills(3, 1, 2, 2), 5, 7, []int64{0, 2, 3}, impl.OK},
		{steadyMills(3, 1, 2, 2), 5, 8, []int64{0, 1, 2, 3}, impl.OK},
		{steadyMills(1, 5, 5, 4), 5, 5, []int64{1}, impl.OK},
		{steadyMills(1, 5, 5, 4), 5, 6, []int64{0, 1}, impl.OK},
		{steadyMills(1, 5, 5, 4), 5, 7, []int64{1, 2}, impl.OK},
		{steadyMills(1, 5, 4, 5), 5, 9, []int64{1, 2}, impl.OK},
		{steadyMills(1, 5, 4, 5), 5, 10, []int64{1, 3}, impl.OK},
		{steadyMills(2, 9, 2, 9), 5, 11, []int64{0, 1}, impl.OK},
		{steadyMills(2, 2, 2, 9), 5, 11, []int64{0, 3}, impl.OK},
		{steadyMills(1, 2, 4, 8, 16, 32, 64, 128), 5, 255, countingUp(0, 7), impl.OK},
		{steadyMills(1, 2, 4, 8, 16, 32, 64, 128), 5, 254, countingUp(1, 7), impl.OK},
		{steadyMills(1, 2, 4, 8, 16, 32, 64, 128), 5, 256, nil, impl.ErrNotFound},
		{steadyMills(1, 2, 4, 8, 16, 32, 64, 128), 5, 128, []int64{7}, impl.OK},
		{steadyMills(1, 2, 4, 8, 16, 32, 64, 128), 5, 129, []int64{0, 7}, impl.OK},
		{fullStages()[0], 1, 80000, countingUp(0, 7), impl.OK},
		{fullStages()[0], 1, 79999, countingUp(0, 7), impl.OK},
		{fullStages()[0], 1, 70000, countingUp(0, 6), impl.OK},
		{fullStages()[0], 1, 10000, []int64{0}, impl.OK},
		{fullStages()[0], 2, 1, nil, impl.ErrNotFound},
		{nil, 5, 1, nil, impl.ErrInvalid},
		{[]impl.Mill{}, 13, 0, nil, impl.ErrInvalid},
		{evenMills(9, exampleMills()[0]), 5, 1, nil, impl.ErrInvalid},
		{append(exampleMills(), impl.Mill{}), 5, 600, nil, impl.ErrInvalid},
	}
	for _, c := range cases {
		if got, code := impl.FewestMills(c.mills, c.force, c.rate); !slices.Equal(got, c.want) || code != c.code {
			t.Errorf("FewestMills(%v, %d, %d) = %v, %d", c.mills, c.force, c.rate, got, code)
		}
	}
}

// ratesAround are amounts around the sums of some rates.
func ratesAround(rates []int64) []int64 {
	amounts := []int64{1, 2, 3, 80000}
	falling := slices.Clone(rates)
	slices.Sort(falling)
	slices.Reverse(falling)
	for many := range rates {
		for _, sum := range []int64{totalOf(rates[:many+1]), totalOf(falling[:many+1]), totalOf(falling[many:]), rates[many]} {
			amounts = append(amounts, sum-1, sum, sum+1)
		}
	}
	slices.Sort(amounts)
	return slices.DeleteFunc(slices.Compact(amounts), func(n int64) bool { return n < 1 || n > 80000 })
}

// TestFewestMillsLiftEnough is promise 11 for mills: the told ones lift enough, no set with fewer mills does, and none with as
// many comes first.
func TestFewestMillsLiftEnough(t *testing.T) {
	for _, list := range manyMills() {
		for force := range int64(13) {
			rates := ratesBy(list, force)
			for _, rate := range ratesAround(rates) {
				got, code := impl.FewestMills(list, force, rate)
				want := fewestBy(rates, rate)
				if want == nil && (len(got) != 0 || code != impl.ErrNotFound || totalOf(rates) >= rate) {
					t.Fatalf("FewestMills(%v, %d, %d) = %v, %d", list, force, rate, got, code)
				}
				if want != nil && (!slices.Equal(got, want) || code != impl.OK) {
					t.Fatalf("FewestMills(%v, %d, %d) = %v, %d, not %v", list, force, rate, got, code, want)
				}
				lifted := int64(0)
				for _, k := range got {
					lifted += rates[k]
				}
				if code == impl.OK && lifted < rate {
					t.Fatalf("FewestMills(%v, %d, %d) = %v, which lift %d", list, force, rate, got, lifted)
				}
			}
		}
	}
}

func TestHoursToLift(t *testing.T) {
	best := fullStages()
	cases := []struct {
		stages     [][]impl.Mill
		forces     []int64
		volume     int64
		want, code int64
	}{
		{exampleStages(), []int64{5, 6, 6}, 600, 2, impl.OK},
		{exampleStages(), []int64{5, 6, 6}, 675, 2, impl.OK},
		{exampleStages(), []int64{5, 6, 6}, 676, 3, impl.OK},
		{exampleStages(), []int64{5, 6, 6}, 1125, 3, impl.OK},
		{exampleStages(), []int64{5, 6, 6}, 1126, 0, impl.ErrNotFound},
		{exampleStages(), []int64{5, 6, 6}, 225, 1, impl.OK},
		{exampleStages(), []int64{5, 6, 6}, 226, 2, impl.OK},
		{exampleStages(), []int64{5, 6, 6}, 1, 1, impl.OK},
		{exampleStages(), []int64{5, 6, 6}, 0, 0, impl.OK},
		{exampleStages(), []int64{5}, 600, 0, impl.ErrNotFound},
		{exampleStages(), []int64{0, 0, 5, 0}, 1, 3, impl.OK},
		{exampleStages(), []int64{0, 0, 5, 0}, 225, 3, impl.OK},
		{exampleStages(), []int64{0, 0, 5, 0}, 226, 0, impl.ErrNotFound},
		{exampleStages(), []int64{12, 0, 7}, 1, 0, impl.ErrNotFound},
		{exampleStages(), nil, 0, 0, impl.OK},
		{exampleStages(), []int64{}, 0, 0, impl.OK},
		{exampleStages(), nil, 1, 0, impl.ErrNotFound},
		{exampleStages(), nil, 1000000000, 0, impl.ErrNotFound},
		{exampleStages(), nil, 1000000001, 0, impl.ErrRange},
		{exampleStages(), nil, -1, 0, impl.ErrRange},
		{exampleStages(), []int64{13}, 0, 0, impl.ErrRange},
		{exampleStages(), []int64{-1}, 0, 0, impl.ErrRange},
		{exampleStages(), []int64{5, 6, 13}, 1, 0, impl.ErrRange},
		{exampleStages(), []int64{5, 6, -1}, 5000, 0, impl.ErrRange},
		{exampleStages(), filled(1000, 6), 450000, 1000, impl.OK},
		{exampleStages(), filled(1000, 6), 449550, 999, impl.OK},
		{exampleStages(), filled(1000, 6), 449551, 1000, impl.OK},
		{exampleStages(), filled(1000, 6), 450001, 0, impl.ErrNotFound},
		{exampleStages(), filled(1001, 6), 1, 0, impl.ErrRange},
		{exampleStages(), filled(1001, 6), 0, 0, impl.ErrRange},
		{exampleStages(), filled(100000, 6), 450001, 0, impl.ErrRange},
		{best, filled(1000, 1), 80000000, 1000, impl.OK},
		{best, filled(1000, 1), 80000001, 0, impl.ErrNotFound},
		{best, filled(1000, 1), 1000000000, 0, impl.ErrNotFound},
		{best, filled(1000, 2), 1, 0, impl.ErrNotFound},
		{nil, nil, 0, 0, impl.ErrInvalid},
		{[][]impl.Mill{}, []int64{13}, -1, 0, impl.ErrInvalid},
		{[][]impl.Mill{{}}, []int64{5}, 1, 0, impl.ErrInvalid},
		{append(fullStages(), exampleMills()), filled(1001, 6), 1, 0, impl.ErrInvalid},
	}
	for _, c := range cases {
		if got, code := impl.HoursToLift(c.stages, c.forces, c.volume); got != c.want || code != c.code {
			t.Errorf("HoursToLift(%v, %v, %d) = %d, %d", c.stages, c.forces, c.volume, got, code)
		}
	}
}

// TestHoursByForces holds hours against the definition, with volumes around what is lifted in the hours.
func TestHoursByForces(t *testing.T) {
	source := rand.New(rand.NewSource(3))
	for _, stages := range manyStages() {
		for range 5 {
			forces := make([]int64, source.Intn(20))
			for k := range forces {
				forces[k] = source.Int63n(13)
			}
			volumes := []int64{0, 1, 2, 1000000000}
			lifted := int64(0)
			for _, force := range forces {
				lifted += throughBy(stages, force)
				volumes = append(volumes, max(lifted-1, 0), lifted, lifted+1)
			}
			for _, volume := range volumes {
				want, wantCode := hoursBy(stages, forces, volume), int64(impl.OK)
				if want < 0 {
					want, wantCode = 0, impl.ErrNotFound
				}
				if got, code := impl.HoursToLift(stages, forces, volume); got != want || code != wantCode {
					t.Fatalf("HoursToLift(%v, %v, %d) = %d, %d, not %d, %d", stages, forces, volume, got, code, want, wantCode)
				}
			}
		}
	}
}

func TestBestSplit(t *testing.T) {
	cases := []struct {
		mills      []impl.Mill
		force      int64
		want       []int64
		most, code int64
	}{
		{exampleMills(), 5, []int64{0, 1}, 300, impl.OK},
		{exampleMills(), 4, []int64{0, 1}, 200, impl.OK},
		// Both numbers occur also where nothing is lifted.
		{exampleMills(), 6, []int64{0, 1}, 0, impl.OK},
		{exampleMills(), 0, []int64{0, 1}, 0, impl.OK},
		{exampleMills(), 12, []int64{0, 1}, 0, impl.OK},
		{fullStages()[0], 2, []int64{0, 0, 0, 0, 0, 0, 0, 1}, 0, impl.OK},
		{fullStages()[0], 1, []int64{0, 0, 0, 0, 1, 1, 1, 1}, 40000, impl.OK},
		{exampleMills(), 13, nil, 0, impl.ErrRange},
		{exampleMills(), -1, nil, 0, impl.ErrRange},
		{exampleMills(), math.MaxInt64, nil, 0, impl.ErrRange},
		{exampleMills(), math.MinInt64, nil, 0, impl.ErrRange},
		{exampleMills()[:1], 5, nil, 0, impl.ErrState},
		{exampleMills()[:1], 0, nil, 0, impl.ErrState},
		{exampleMills()[:1], 13, nil, 0, impl.ErrRange},
		{exampleMills()[:1], -1, nil, 0, impl.ErrRange},
		{steadyMills(3, 1, 2, 2), 5, []int64{0, 0, 1, 1}, 4, impl.OK},
		{steadyMills(5, 1, 1, 1), 5, []int64{0, 1, 1, 1}, 3, impl.OK},
		{steadyMills(1, 1, 1, 5), 5, []int64{0, 0, 0, 1}, 3, impl.OK},
		{steadyMills(2, 2, 2), 5, []int64{0, 0, 1}, 2, impl.OK},
		{steadyMills(1, 2, 3, 4), 5, []int64{0, 1, 1, 0}, 5, impl.OK},
		{steadyMills(4, 3, 2, 1), 5, []int64{0, 1, 1, 0}, 5, impl.OK},
		{steadyMills(1, 2, 4, 8, 16, 32, 64, 128), 5, []int64{0, 0, 0, 0, 0, 0, 0, 1}, 127, impl.OK},
		{steadyMills(128, 1, 2, 4, 8, 16, 32, 64), 5, []int64{0, 1, 1, 1, 1, 1, 1, 1}, 127, impl.OK},
		{nil, 5, nil, 0, impl.ErrInvalid},
		{[]impl.Mill{}, 13, nil, 0, impl.ErrInvalid},
		{evenMills(9, exampleMills()[0]), 5, nil, 0, impl.ErrInvalid},
		{[]impl.Mill{{}}, 5, nil, 0, impl.ErrInvalid},
		{append(exampleMills(), impl.Mill{}), 13, nil, 0, impl.ErrInvalid},
	}
	for _, c := range cases {
		if got, most, code := impl.BestSplit(c.mills, c.force); !slices.Equal(got, c.want) || most != c.most || code != c.code {
			t.Errorf("BestSplit(%v, %d) = %v, %d, %d", c.mills, c.force, got, most, code)
		}
	}
}

// TestNoDivisionIsBetter is promise 11 for divisions: by no one more is lifted than by the told one, and none by which as much is
// lifted comes first.
func TestNoDivisionIsBetter(t *testing.T) {
	for _, list := range manyMills() {
		if len(list) == 1 {
			continue
		}
		for force := range int64(13) {
			rates := ratesBy(list, force)
			want, wantMost := splitBy(rates)
			got, most, code := impl.BestSplit(list, force)
			if !slices.Equal(got, want) || most != wantMost || code != impl.OK {
				t.Fatalf("BestSplit(%v, %d) = %v, %d, %d, not %v, %d", list, force, got, most, code, want, wantMost)
			}
			// As stages, the mills lift just as much.
			var stages [2][]impl.Mill
			for k, m := range list {
				stages[got[k]] = append(stages[got[k]], m)
			}
			if through, code := impl.ThroughOf(stages[:], force); through != most || code != impl.OK {
				t.Fatalf("BestSplit(%v, %d) = %v, %d, but %d goes through", list, force, got, most, through)
			}
		}
	}
}

// millsText writes a mill by the definition of its text.
func millsText(m impl.Mill) string {
	return fmt.Sprintf("lift %d rate %d wind %d-%d", m.Lift, m.Rate, m.Low, m.High)
}

// textOfValidMill writes a mill by the definition of its text, if it is valid.
func textOfValidMill(m impl.Mill) string {
	if !isValidMill(m) {
		return "no mill"
	}
	return millsText(m)
}

func isZeroMill(m impl.Mill) bool { return m == impl.Mill{} }

func TestMillsAreReadBack(t *testing.T) {
	good := slices.Concat(slices.Concat(manyMills()...), limitMills())
	checkReadBack(t, good, badMills(), millsText, impl.MillText, impl.ReadMill)
}

func TestNoTextsOfMills(t *testing.T) {
	checkNotRead(t, []string{
		"lift", "lift 150", "lift 150 rate 600", "lift 150 rate 600 wind", "lift 150 rate 600 wind 4", "lift 150 rate 600 wind 4-", "lift 150 rate 600 wind -6", "lift 150 rate 600 wind -",
		"lift 150 rate 600 wind 4 6", "lift 150 rate 600 wind 4 - 6", "lift 150 rate 600 wind 4- 6", "lift 150 rate 600 wind 4 -6", "lift 150 rate 600 wind 4--6", "lift 150 rate 600 wind -4-6",
		"lift 150 rate 600 wind 4-6-8", "lift 150 rate 600 wind 4-6 ", " lift 150 rate 600 wind 4-6", "lift  150 rate 600 wind 4-6", "lift 150 rate 600 wind 4-6\n", "lift\t150 rate 600 wind 4-6",
		"lift 150 rate 600 wind 4-6 lift", "lift 150 rate 600 wind 4-6 7", "mill lift 150 rate 600 wind 4-6", "rate 600 lift 150 wind 4-6", "Lift 150 rate 600 wind 4-6", "lift 150 rates 600 wind 4-6",
		"lift 150 rate 600 force 4-6", "lift 0150 rate 600 wind 4-6", "lift +150 rate 600 wind 4-6", "lift 150 rate 600.0 wind 4-6", "lift 150 rate 600 wind 04-6", "lift 150 rate 600 wind 4-06",
		"lift 0 rate 600 wind 4-6", "lift 501 rate 600 wind 4-6", "lift -150 rate 600 wind 4-6", "lift 150 rate 0 wind 4-6", "lift 150 rate 10001 wind 4-6", "lift 150 rate 600 wind 0-6",
		"lift 150 rate 600 wind 4-13", "lift 150 rate 600 wind 6-4", "lift 150 rate 600 wind 13-13", "lift 18446744073709551766 rate 600 wind 4-6", "lift 150 rate 18446744073709552216 wind 4-6",
		"lift150 rate600 wind4-6", "lift a rate b wind c-d", "lift 150 rate 600 wind 4–6", "lift 150\u00a0rate 600 wind 4-6", "lift １50 rate 600 wind 4-6", "lift 150 rate 600 wind 4-6\x00",
		"lift 0 rate 0 wind 0-0", "lift " + strings.Repeat("1", 5000) + " rate 600 wind 4-6", strings.Repeat("lift 150 rate 600 wind 4-6", 500),
	}, impl.ReadMill, isZeroMill)
}

func TestReadMillOnChanges(t *testing.T) {
	texts := []string{"lift 150 rate 600 wind 4-6", "lift 1 rate 1 wind 1-1", "lift 500 rate 10000 wind 12-12", "lift 10 rate 100 wind 1-12"}
	checkReader(t, texts, impl.ReadMill, textOfValidMill, isZeroMill)
}

// TestReadMillByNumber reads mills with numbers around all limits at each place.
func TestReadMillByNumber(t *testing.T) {
	for _, n := range append([]int64{2, 3, 10, 11, 12, 13, 499, 500, 501, 9999, 10000, 10001}, extremes...) {
		for _, m := range mills(n, 600, 4, 6, 150, n, 4, 6, 150, 600, n, 6, 150, 600, 4, n, n, n, n, n) {
			got, ok := impl.ReadMill(millsText(m))
			if ok != isValidMill(m) || ok && got != m || !ok && !isZeroMill(got) {
				t.Errorf("ReadMill(%q) = %v, %v", millsText(m), got, ok)
			}
		}
	}
}

// millArguments are an argument of each kind for the functions of chapter 10.
type millArguments struct {
	mill         impl.Mill
	mills        []impl.Mill
	stages       [][]impl.Mill
	forces       []int64
	force        int64
	rate, volume int64
}

// calls are all functions of chapter 10 that return a code, with their results as texts, and the code at the end.
func (a millArguments) calls() map[string]string {
	return map[string]string{
		"MillRate":     fmt.Sprint(impl.MillRate(a.mill, a.force)),
		"StageRates":   fmt.Sprint(impl.StageRates(a.stages, a.force)),
		"ThroughOf":    fmt.Sprint(impl.ThroughOf(a.stages, a.force)),
		"WeakestStage": fmt.Sprint(impl.WeakestStage(a.stages, a.force)),
		"TotalLift":    fmt.Sprint(impl.TotalLift(a.stages)),
		"BestForce":    fmt.Sprint(impl.BestForce(a.stages)),
		"FewestMills":  fmt.Sprint(impl.FewestMills(a.mills, a.force, a.rate)),
		"HoursToLift":  fmt.Sprint(impl.HoursToLift(a.stages, a.forces, a.volume)),
		"BestSplit":    fmt.Sprint(impl.BestSplit(a.mills, a.force)),
	}
}

// noMillResults are the zero values of the results of the calls.
var noMillResults = map[string]string{
	"MillRate": "0", "StageRates": "[]", "ThroughOf": "0", "WeakestStage": "0", "TotalLift": "0", "BestForce": "0 0", "FewestMills": "[]", "HoursToLift": "0", "BestSplit": "[] 0",
}

// isValid tells by the definition of which calls the arguments are valid.
func (a millArguments) isValid() map[string]bool {
	areStages := len(a.stages) >= 1 && len(a.stages) <= 4
	for _, list := range a.stages {
		areStages = areStages && isValidStage(list)
	}
	areMills := isValidStage(a.mills)
	return map[string]bool{
		"MillRate": isValidMill(a.mill), "StageRates": areStages, "ThroughOf": areStages, "WeakestStage": areStages, "TotalLift": areStages, "BestForce": areStages,
		"FewestMills": areMills, "HoursToLift": areStages, "BestSplit": areMills,
	}
}

// isInRange tells by the definition of which calls the arguments are in range.
func (a millArguments) isInRange() map[string]bool {
	isForce := func(n int64) bool { return n >= 0 && n <= 12 }
	areForces := len(a.forces) <= 1000 && a.volume >= 0 && a.volume <= 1000000000
	for _, force := range a.forces {
		areForces = areForces && isForce(force)
	}
	is := isForce(a.force)
	return map[string]bool{
		"MillRate": is, "StageRates": is, "ThroughOf": is, "WeakestStage": is, "TotalLift": true, "BestForce": true,
		"FewestMills": is && a.rate >= 1 && a.rate <= 80000, "HoursToLift": areForces, "BestSplit": is,
	}
}

// checkCodes has the first errors come just where they should.
func (a millArguments) checkCodes(t *testing.T) {
	t.Helper()
	isValid, isInRange := a.isValid(), a.isInRange()
	for name, got := range a.calls() {
		checkErrors(t, name, a, got, noMillResults[name], isValid[name], isInRange[name])
	}
}

// millNumbers are numbers at and around all limits of the chapter.
var millNumbers = append([]int64{2, 5, 11, 12, 13, 500, 501, 9999, 10000, 10001, 79999, 80000, 80001, 999999999, 1000000000, 1000000001}, extremes...)

// TestMillCodes looks at all functions with good and bad arguments of each kind, alone and together.
func TestMillCodes(t *testing.T) {
	good := millArguments{mill: exampleMills()[0], mills: exampleMills(), stages: exampleStages(), forces: []int64{5, 6, 6}, force: 5, rate: 5, volume: 5}
	good.checkCodes(t)
	for _, n := range millNumbers {
		for _, forces := range [][]int64{nil, {n}, {5, n}, {n, 5}, append(filled(999, 5), n), append(filled(1000, 5), n), filled(1000, n), filled(1001, n)} {
			a := good
			a.forces, a.volume = forces, 500
			a.checkCodes(t)
			a.volume = n
			a.checkCodes(t)
			a.force, a.rate = n, n
			a.checkCodes(t)
		}
		a := good
		a.force = n
		a.checkCodes(t)
		a.force, a.rate = 5, n
		a.checkCodes(t)
		for _, list := range badLists() {
			a.mill, a.mills, a.stages, a.force = impl.Mill{}, list, [][]impl.Mill{list}, n
			a.checkCodes(t)
		}
		for _, stages := range badStages() {
			good.with(stages, n).checkCodes(t)
		}
		for _, m := range badMills() {
			a := good
			a.mill, a.force, a.rate, a.volume = m, n, n, n
			a.checkCodes(t)
		}
	}
}

// with returns the arguments with other stages, and with a number for all numbers.
func (a millArguments) with(stages [][]impl.Mill, n int64) millArguments {
	a.stages, a.force, a.rate, a.volume, a.forces = stages, n, n, n, []int64{n}
	return a
}

// markMill fills the unused capacity of a list of mills, where a write would show.
var markMill = impl.Mill{Lift: spareMark, Rate: -spareMark, Low: spareMark, High: spareMark}

// guardedStages returns a copy of stages with marks in all unused capacity, and a function that fails if the copy or one of
// the marks has been changed.
func guardedStages(t *testing.T, stages [][]impl.Mill) ([][]impl.Mill, func()) {
	t.Helper()
	var backing [][]impl.Mill
	var checks []func()
	for _, list := range append(slices.Clone(stages), []impl.Mill{markMill}, []impl.Mill{markMill}) {
		copied, unchanged := guarded(t, list, markMill)
		backing, checks = append(backing, copied), append(checks, unchanged)
	}
	before := copyOfStages(backing)
	return backing[:len(stages)], func() {
		t.Helper()
		for _, unchanged := range checks {
			unchanged()
		}
		if !slices.EqualFunc(backing, before, slices.Equal[[]impl.Mill]) {
			t.Fatalf("%v has been changed to %v", before, backing)
		}
	}
}

// withGuards returns the arguments with marks in the unused capacity of their lists, and a function that fails if one of
// the lists, or one of the marks, has been changed.
func (a millArguments) withGuards(t *testing.T) (millArguments, func()) {
	t.Helper()
	var unchanged [3]func()
	a.mills, unchanged[0] = guarded(t, a.mills, markMill)
	a.stages, unchanged[1] = guardedStages(t, a.stages)
	a.forces, unchanged[2] = guarded(t, a.forces, spareMark)
	return a, together(t, unchanged[:]...)
}

// withCopies returns the arguments with copies of their lists, which have no unused capacity.
func (a millArguments) withCopies() millArguments {
	a.mills, a.stages, a.forces = slices.Clip(slices.Clone(a.mills)), copyOfStages(a.stages), slices.Clip(slices.Clone(a.forces))
	return a
}

// millRuns are arguments of all kinds.
func millRuns() []millArguments {
	var runs []millArguments
	for _, force := range []int64{-1, 0, 1, 5, 6, 12, 13} {
		for k, stages := range slices.Concat(manyStages(), badStages()[:40]) {
			lists := slices.Concat(manyMills(), badLists()[:20])
			a := millArguments{mill: markMill, mills: lists[k%len(lists)], stages: stages, forces: filled(k%9, max(force, 0)), force: force, rate: 40, volume: 90}
			if len(a.mills) > 0 {
				a.mill = a.mills[0]
			}
			runs = append(runs, a)
		}
	}
	return runs
}

// TestMillFunctionsArePure is promise 1 for all functions of chapter 10: they return, change nothing, and give the same
// once more.
func TestMillFunctionsArePure(t *testing.T) {
	for _, a := range millRuns() {
		with, unchanged := a.withGuards(t)
		first := with.calls()
		valid, same := impl.ValidStages(with.stages), impl.SameStages(with.stages, a.stages)
		unchanged()
		if again := a.withCopies().calls(); !maps.Equal(first, again) {
			t.Fatalf("%v: %v is followed by %v", a, first, again)
		}
		if !same || impl.ValidStages(copyOfStages(a.stages)) != valid {
			t.Fatalf("%v: the stages are told to differ", a)
		}
		a.checkCodes(t)
	}
}

// TestMillResultsAreNew is promise 1 as well: no result shares memory with an argument or with another one.
func TestMillResultsAreNew(t *testing.T) {
	for _, a := range millRuns() {
		with, unchanged := a.withGuards(t)
		checkFresh(t, func() []int64 { rates, _ := impl.StageRates(with.stages, with.force); return rates }, -spareMark, unchanged)
		checkFresh(t, func() []int64 { list, _ := impl.FewestMills(with.mills, with.force, with.rate); return list }, -spareMark, unchanged)
		checkFresh(t, func() []int64 { list, _, _ := impl.BestSplit(with.mills, with.force); return list }, -spareMark, unchanged)
	}
}

// TestOneListForAllStages gives the same memory to a function as several stages.
func TestOneListForAllStages(t *testing.T) {
	list := exampleMills()
	stages := slices.Repeat([][]impl.Mill{list}, 4)
	a := millArguments{mill: list[0], mills: list, stages: stages, forces: []int64{5, 5}, force: 5, rate: 600, volume: 900}
	first := a.calls()
	if again := a.withCopies().calls(); !maps.Equal(first, again) || !slices.Equal(list, exampleMills()) || !impl.SameStages(stages, copyOfStages(stages)) {
		t.Fatalf("%v: %v is followed by %v", a, first, again)
	}
}

// TestNothingGoesOnAfterACall changes the mills as soon as a call has returned, from many calls at once, and counts what
// still runs then: a call leaves nothing behind that could look at its arguments.
func TestNothingGoesOnAfterACall(t *testing.T) {
	before := runtime.NumGoroutine()
	done := make(chan bool)
	for range 8 {
		go func() {
			isRight := true
			for range 200 {
				stages := exampleStages()
				force, most, _ := impl.BestForce(stages)
				overwriteWith(stages[0], markMill)
				isRight = isRight && force == 6 && most == 450
				stages = exampleStages()
				hours, _ := impl.HoursToLift(stages, []int64{5, 6, 6}, 600)
				overwriteWith(stages[1], markMill)
				isRight = isRight && hours == 2
			}
			done <- isRight
		}()
	}
	for range 8 {
		if !<-done {
			t.Error("the best force or the hours are wrong")
		}
	}
	// One that has sent, or closed, its last may need a moment until it has ended.
	for range 2000 {
		if runtime.NumGoroutine() <= before {
			return
		}
		time.Sleep(time.Millisecond)
	}
	t.Errorf("%d goroutines have become %d", before, runtime.NumGoroutine())
}
