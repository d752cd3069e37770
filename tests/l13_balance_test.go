package tests

import (
	"fmt"
	"math"
	"math/rand"
	"slices"
	"strings"
	"testing"

	"loop.example/g01032/impl"
)

// days returns days, each of them told by its five amounts.
func days(amounts ...int64) []impl.Water {
	var list []impl.Water
	for five := range slices.Chunk(amounts, 5) {
		list = append(list, impl.Water{Rain: five[0], Seepage: five[1], Evaporation: five[2], Pumped: five[3], Sluiced: five[4]})
	}
	return list
}

// amountsOf are the five amounts of a day.
func amountsOf(w impl.Water) []int64 {
	return []int64{w.Rain, w.Seepage, w.Evaporation, w.Pumped, w.Sluiced}
}

// daysWith returns days with some nets, for which all amounts are used.
func daysWith(nets ...int64) []impl.Water {
	var list []impl.Water
	for k, net := range nets {
		five := []int64{0, 0, 0, 0, 0}
		if net < 0 {
			five[2+k%3] = -net
		} else {
			five[k%2] = net
		}
		list = append(list, days(five...)...)
	}
	return list
}

// exampleDays are the day of the example, a dry day, and a wet one.
func exampleDays() []impl.Water { return days(100, 20, 30, 50, 0, 0, 0, 0, 60, 30, 70, 0, 0, 0, 0) }

func manyDays(many int, w impl.Water) []impl.Water { return slices.Repeat([]impl.Water{w}, many) }

// fullDay is a day with all amounts at their limit, wetDay and dryDay those with the greatest net and the least one.
var (
	fullDay = impl.Water{Rain: 10000000, Seepage: 10000000, Evaporation: 10000000, Pumped: 10000000, Sluiced: 10000000}
	wetDay  = impl.Water{Rain: 10000000, Seepage: 10000000}
	dryDay  = impl.Water{Evaporation: 10000000, Pumped: 10000000, Sluiced: 10000000}
)

// balanceNumbers are numbers at and around all limits of the chapter.
var balanceNumbers = append([]int64{2, 5, -5, 99, 100, 101, -100, -101, 9999999, 10000000, 10000001, 999999999, 1000000000, 1000000001}, extremes...)

// daysWithNumber are a day for each of the amounts, where this is a number, and one where all of them are.
func daysWithNumber(n int64) []impl.Water {
	return days(n, 2, 3, 4, 5, 1, n, 3, 4, 5, 1, 2, n, 4, 5, 1, 2, 3, n, 5, 1, 2, 3, 4, n, n, n, n, n, n)
}

// badDays are days that are not valid.
func badDays() []impl.Water {
	var bad []impl.Water
	for _, n := range balanceNumbers {
		if n < 0 || n > 10000000 {
			bad = append(bad, daysWithNumber(n)...)
		}
	}
	// The net of these would be that of a valid day.
	return append(bad, days(10000001, 0, 10000000, 0, 0, -1, 1, 0, 0, 0, 0, 0, -1, 1, 0, 0, 0, 0, 10000001, -1)...)
}

// isValidDay tells by the definition whether a day is valid.
func isValidDay(w impl.Water) bool {
	return !slices.ContainsFunc(amountsOf(w), func(n int64) bool { return n < 0 || n > 10000000 })
}

// randomDays are days with amounts up to a number, always the same ones for the same source.
func randomDays(source *rand.Rand, many int, most int64) []impl.Water {
	var list []impl.Water
	for range many {
		var five []int64
		for range 5 {
			five = append(five, source.Int63n(most+1))
		}
		// The water comes in and goes out in about the same way, although there are three ways out.
		five[2+source.Intn(3)] = 0
		list = append(list, days(five...)...)
	}
	return list
}

// netBy is the net by the definition.
func netBy(w impl.Water) int64 {
	return w.Rain + w.Seepage - w.Evaporation - w.Pumped - w.Sluiced
}

// volumeBy is the volume after the day k by the definition.
func volumeBy(start int64, list []impl.Water, k int) int64 {
	for _, w := range list[:k+1] {
		start += netBy(w)
	}
	return start
}

// volumesBy are the volumes after all days by the definition.
func volumesBy(start int64, list []impl.Water) []int64 {
	var volumes []int64
	for k := range list {
		volumes = append(volumes, volumeBy(start, list, k))
	}
	return volumes
}

// missingBy are by the definition how much more must be pumped each day.
func missingBy(start int64, list []impl.Water, most int64) []int64 {
	var missing []int64
	for _, w := range list {
		more := int64(0)
		if start += netBy(w); start > most {
			more = start - most
			start = most
		}
		missing = append(missing, more)
	}
	return missing
}

// worstBy are by the definition the days with the greatest sum: all stretches are tried, by their first day and then by their last one.
func worstBy(list []impl.Water) (int64, int64, int64) {
	from, to, most := -1, -1, int64(0)
	for first := range list {
		sum := int64(0)
		for last := first; last < len(list); last++ {
			if sum += netBy(list[last]); from < 0 || sum > most {
				from, to, most = first, last, sum
			}
		}
	}
	return int64(from), int64(to), most
}

// levelsBy are the levels after all days by the definition, and the code.
func levelsBy(c impl.Curve, level int64, list []impl.Water) ([]int64, int64) {
	var levels []int64
	for _, volume := range volumesBy(volumeOn(c, level), list) {
		if volume < 0 {
			return nil, impl.ErrState
		}
		if volume > lastVolume(c) {
			return nil, impl.ErrFlood
		}
		after := lowestOf(c)
		for volumeOn(c, after) < volume {
			after++
		}
		levels = append(levels, after)
	}
	return levels, impl.OK
}

func TestBalanceConstants(t *testing.T) {
	if impl.MaxFlow != 10000000 || impl.MaxRunDays != 100 {
		t.Error("a limit is wrong")
	}
}

func TestValidWater(t *testing.T) {
	good := slices.Concat(exampleDays(), []impl.Water{{}, fullDay, wetDay, dryDay}, daysWithNumber(0), daysWithNumber(1), daysWithNumber(9999999), daysWithNumber(10000000))
	checkValidity(t, impl.ValidWater, good, badDays())
	for _, n := range balanceNumbers {
		for _, w := range daysWithNumber(n) {
			if got := impl.ValidWater(w); got != (n >= 0 && n <= 10000000) {
				t.Errorf("ValidWater(%v) = %v", w, got)
			}
		}
	}
}

func TestSameRun(t *testing.T) {
	different := [][]impl.Water{
		nil, manyDays(1, impl.Water{}), manyDays(2, impl.Water{}), exampleDays(), exampleDays()[:2], exampleDays()[1:], append(exampleDays(), impl.Water{}),
		manyDays(101, impl.Water{}), manyDays(1, fullDay), days(1, 0, 0, 0, 0), days(0, 1, 0, 0, 0), days(0, 0, 1, 0, 0), days(0, 0, 0, 1, 0), days(0, 0, 0, 0, 1),
		days(1, 0, 0, 0, 0, 0, 1, 0, 0, 0), days(0, 1, 0, 0, 0, 1, 0, 0, 0, 0), days(1, 0, 1, 0, 0), days(-1, 0, 0, 0, 0), days(math.MaxInt64, 0, 0, 0, 0), days(0, 0, 0, 0, math.MinInt64),
	}
	checkDiffer(t, different, slices.Clone[[]impl.Water], impl.SameRun)
	if !impl.SameRun(nil, []impl.Water{}) || !impl.SameRun([]impl.Water{}, nil) {
		t.Error("nil and empty lists are told to differ")
	}
}

func TestNetOf(t *testing.T) {
	cases := []struct {
		water     impl.Water
		net, code int64
	}{
		{exampleDays()[0], 40, impl.OK},
		{impl.Water{}, 0, impl.OK},
		{impl.Water{Rain: 7}, 7, impl.OK},
		{impl.Water{Seepage: 7}, 7, impl.OK},
		{impl.Water{Evaporation: 7}, -7, impl.OK},
		{impl.Water{Pumped: 7}, -7, impl.OK},
		{impl.Water{Sluiced: 7}, -7, impl.OK},
		{impl.Water{Rain: 1, Seepage: 20, Evaporation: 300, Pumped: 4000, Sluiced: 50000}, -54279, impl.OK},
		{impl.Water{Rain: 50000, Seepage: 4000, Evaporation: 300, Pumped: 20, Sluiced: 1}, 53679, impl.OK},
		{fullDay, -10000000, impl.OK},
		{wetDay, 20000000, impl.OK},
		{dryDay, -30000000, impl.OK},
		{impl.Water{Rain: -1}, 0, impl.ErrInvalid},
		{impl.Water{Rain: 10000001, Pumped: 1}, 0, impl.ErrInvalid},
	}
	for _, v := range cases {
		if got, code := impl.NetOf(v.water); got != v.net || code != v.code {
			t.Errorf("NetOf(%v) = %d, %d", v.water, got, code)
		}
	}
	for _, w := range badDays() {
		if got, code := impl.NetOf(w); got != 0 || code != impl.ErrInvalid {
			t.Errorf("NetOf(%v) = %d, %d", w, got, code)
		}
	}
}

func TestSumOfDays(t *testing.T) {
	cases := []struct {
		list []impl.Water
		want impl.Water
		code int64
	}{
		{nil, impl.Water{}, impl.OK},
		{[]impl.Water{}, impl.Water{}, impl.OK},
		{exampleDays(), impl.Water{Rain: 170, Seepage: 20, Evaporation: 30, Pumped: 110, Sluiced: 30}, impl.OK},
		{exampleDays()[:1], exampleDays()[0], impl.OK},
		{days(1, 20, 300, 4000, 50000, 5, 60, 700, 8000, 90000), impl.Water{Rain: 6, Seepage: 80, Evaporation: 1000, Pumped: 12000, Sluiced: 140000}, impl.OK},
		{manyDays(2, fullDay), impl.Water{Rain: 20000000, Seepage: 20000000, Evaporation: 20000000, Pumped: 20000000, Sluiced: 20000000}, impl.OK},
		{manyDays(100, fullDay), impl.Water{Rain: 1000000000, Seepage: 1000000000, Evaporation: 1000000000, Pumped: 1000000000, Sluiced: 1000000000}, impl.OK},
		{manyDays(99, wetDay), impl.Water{Rain: 990000000, Seepage: 990000000}, impl.OK},
		{manyDays(101, impl.Water{}), impl.Water{}, impl.ErrRange},
		{manyDays(5000, fullDay), impl.Water{}, impl.ErrRange},
		{days(0, 0, 0, 0, -1), impl.Water{}, impl.ErrInvalid},
		{append(manyDays(101, fullDay), impl.Water{Rain: 10000001}), impl.Water{}, impl.ErrInvalid},
	}
	for _, v := range cases {
		if got, code := impl.SumOfDays(v.list); got != v.want || code != v.code {
			t.Errorf("SumOfDays(%v) = %v, %d", v.list, got, code)
		}
	}
}

func TestRunBalance(t *testing.T) {
	cases := []struct {
		start int64
		list  []impl.Water
		want  []int64
		code  int64
	}{
		{500, exampleDays(), []int64{540, 450, 520}, impl.OK},
		{50, exampleDays(), []int64{90, 0, 70}, impl.OK},
		{49, exampleDays(), nil, impl.ErrState},
		{0, exampleDays(), nil, impl.ErrState},
		{0, exampleDays()[:1], []int64{40}, impl.OK},
		{0, nil, nil, impl.OK},
		{0, []impl.Water{}, nil, impl.OK},
		{1000000000, nil, nil, impl.OK},
		// Negative after the first day, in between, or after the last one; later days do not make it good.
		{0, daysWith(-1), nil, impl.ErrState},
		{0, daysWith(-1, 5), nil, impl.ErrState},
		{0, daysWith(5, -6, 9), nil, impl.ErrState},
		{0, daysWith(5, 1, -7), nil, impl.ErrState},
		{1, daysWith(5, 1, -7), []int64{6, 7, 0}, impl.OK},
		{1, daysWith(-1), []int64{0}, impl.OK},
		{0, daysWith(0, 0, 0), []int64{0, 0, 0}, impl.OK},
		// Water that comes in and goes out on the same day never stands lower than at the end of the day.
		{0, days(0, 50, 30, 10, 10), []int64{0}, impl.OK},
		{0, days(0, 50, 30, 10, 11), nil, impl.ErrState},
		// The volume after a day may be greater than that at the start may be.
		{1000000000, daysWith(1, 2), []int64{1000000001, 1000000003}, impl.OK},
		{1000000000, manyDays(2, wetDay), []int64{1020000000, 1040000000}, impl.OK},
		{1000000000, manyDays(2, dryDay), []int64{970000000, 940000000}, impl.OK},
		{30000000, manyDays(1, dryDay), []int64{0}, impl.OK},
		{29999999, manyDays(1, dryDay), nil, impl.ErrState},
		{10000000, manyDays(1, fullDay), []int64{0}, impl.OK},
		{7, manyDays(100, impl.Water{}), filled(100, 7), impl.OK},
		{7, manyDays(101, impl.Water{}), nil, impl.ErrRange},
		{0, manyDays(101, dryDay), nil, impl.ErrRange},
		{-1, exampleDays(), nil, impl.ErrRange},
		{-1, nil, nil, impl.ErrRange},
		{-1, daysWith(5), nil, impl.ErrRange},
		{1000000001, daysWith(-5), nil, impl.ErrRange},
		{math.MaxInt64, manyDays(1, wetDay), nil, impl.ErrRange},
		{math.MinInt64, manyDays(1, dryDay), nil, impl.ErrRange},
		{-1, days(0, 0, 0, 0, -1), nil, impl.ErrInvalid},
		{0, days(0, 0, 0, 5, 0, -1, 0, 0, 0, 0), nil, impl.ErrInvalid},
		{-1, append(manyDays(101, dryDay), impl.Water{Sluiced: 10000001}), nil, impl.ErrInvalid},
	}
	for _, v := range cases {
		if got, code := impl.RunBalance(v.start, v.list); !slices.Equal(got, v.want) || code != v.code {
			t.Errorf("RunBalance(%d, %v) = %v, %d", v.start, v.list, got, code)
		}
	}
	if got, code := impl.RunBalance(1000000000, manyDays(100, wetDay)); len(got) != 100 || got[99] != 3000000000 || code != impl.OK {
		t.Errorf("the greatest volumes are %v, %d", got, code)
	}
	if got, code := impl.RunBalance(1000000000, manyDays(33, dryDay)); len(got) != 33 || got[32] != 10000000 || code != impl.OK {
		t.Errorf("on dry days, the volumes are %v, %d", got, code)
	}
}

func TestClosingError(t *testing.T) {
	cases := []struct {
		start, end int64
		list       []impl.Water
		want, code int64
	}{
		{500, 523, exampleDays(), 3, impl.OK},
		{500, 520, exampleDays(), 0, impl.OK},
		{500, 519, exampleDays(), -1, impl.OK},
		{0, 0, nil, 0, impl.OK},
		{0, 0, []impl.Water{}, 0, impl.OK},
		{5, 3, nil, -2, impl.OK},
		{3, 5, nil, 2, impl.OK},
		{0, 1000000000, nil, 1000000000, impl.OK},
		{1000000000, 0, nil, -1000000000, impl.OK},
		// The volume may be negative on the way, and at its end.
		{0, 0, daysWith(-5), 5, impl.OK},
		{0, 2, daysWith(-5, 7), 0, impl.OK},
		{0, 0, exampleDays(), -20, impl.OK},
		{0, 1000000000, manyDays(100, dryDay), 4000000000, impl.OK},
		{1000000000, 0, manyDays(100, wetDay), -3000000000, impl.OK},
		{1000000000, 1000000000, manyDays(100, fullDay), 1000000000, impl.OK},
		{0, 0, manyDays(101, impl.Water{}), 0, impl.ErrRange},
		{-1, 0, exampleDays(), 0, impl.ErrRange},
		{0, -1, exampleDays(), 0, impl.ErrRange},
		{1000000001, 0, exampleDays(), 0, impl.ErrRange},
		{0, 1000000001, exampleDays(), 0, impl.ErrRange},
		{math.MinInt64, math.MaxInt64, nil, 0, impl.ErrRange},
		{-1, -1, days(0, 0, -1, 0, 0), 0, impl.ErrInvalid},
		{0, 1000000001, append(manyDays(101, impl.Water{}), impl.Water{Pumped: -1}), 0, impl.ErrInvalid},
	}
	for _, v := range cases {
		if got, code := impl.ClosingError(v.start, v.end, v.list); got != v.want || code != v.code {
			t.Errorf("ClosingError(%d, %d, %v) = %d, %d", v.start, v.end, v.list, got, code)
		}
	}
}

func TestLevelsOver(t *testing.T) {
	tub, steep := curve(0, 0, 100, 1000), curve(-2000, 0, 2000, 1000000000)
	cases := []struct {
		curve impl.Curve
		level int64
		list  []impl.Water
		want  []int64
		code  int64
	}{
		{tub, 50, exampleDays(), []int64{54, 45, 52}, impl.OK},
		{tub, 50, nil, nil, impl.OK},
		{tub, 0, []impl.Water{}, nil, impl.OK},
		{tub, 100, nil, nil, impl.OK},
		// Just as much water as there may be, and more; just none, and less.
		{tub, 96, exampleDays(), []int64{100, 91, 98}, impl.OK},
		{tub, 97, exampleDays(), nil, impl.ErrFlood},
		{tub, 5, exampleDays(), []int64{9, 0, 7}, impl.OK},
		{tub, 4, exampleDays(), nil, impl.ErrState},
		{tub, 100, daysWith(0), []int64{100}, impl.OK},
		{tub, 100, daysWith(1), nil, impl.ErrFlood},
		{tub, 100, daysWith(1, -5), nil, impl.ErrFlood},
		{tub, 0, daysWith(0), []int64{0}, impl.OK},
		{tub, 0, daysWith(-1), nil, impl.ErrState},
		{tub, 0, daysWith(-1, 5), nil, impl.ErrState},
		// Of several errors, that of the first day.
		{tub, 50, daysWith(-501, 2000), nil, impl.ErrState},
		{tub, 50, daysWith(501, -2000), nil, impl.ErrFlood},
		{tub, 50, daysWith(500, -1001, 9000), nil, impl.ErrState},
		{tub, 50, daysWith(-500, 1001, -9000), nil, impl.ErrFlood},
		{tub, 50, daysWith(-500, 1000, -1000), []int64{0, 100, 0}, impl.OK},
		// The level is the least one with the volume, and the volume goes on as it is.
		{tub, 50, daysWith(1, 9, 1), []int64{51, 51, 52}, impl.OK},
		{tub, 50, daysWith(-1, -8, -1), []int64{50, 50, 49}, impl.OK},
		{curve(0, 0, 10, 1), 9, daysWith(0, 1, -1), []int64{0, 10, 0}, impl.OK},
		{curve(0, 0, 3, 2, 6, 3), 5, daysWith(-1, 2), []int64{2, 6}, impl.OK},
		// Much more water than any curve has, and much less.
		{steep, 2000, manyDays(100, wetDay), nil, impl.ErrFlood},
		{steep, -2000, manyDays(100, dryDay), nil, impl.ErrState},
		{steep, -2000, manyDays(50, wetDay), countingBy(-1920, 80, 50), impl.OK},
		{steep, -2000, manyDays(51, wetDay), nil, impl.ErrFlood},
		{steep, -2000, append(manyDays(50, wetDay), impl.Water{Rain: 1}), nil, impl.ErrFlood},
		{tub, 70, manyDays(100, impl.Water{}), filled(100, 70), impl.OK},
		{tub, 70, manyDays(101, impl.Water{}), nil, impl.ErrRange},
		{tub, 0, manyDays(101, dryDay), nil, impl.ErrRange},
		{tub, 101, exampleDays(), nil, impl.ErrRange},
		{tub, -1, exampleDays(), nil, impl.ErrRange},
		{tub, 101, nil, nil, impl.ErrRange},
		{tub, -1, daysWith(-1), nil, impl.ErrRange},
		{steep, 2001, nil, nil, impl.ErrRange},
		{steep, math.MinInt64, nil, nil, impl.ErrRange},
		{tub, 101, days(0, 0, 0, 0, -1), nil, impl.ErrInvalid},
		{tub, 0, append(daysWith(-1), impl.Water{Rain: -1}), nil, impl.ErrInvalid},
		{tub, 101, append(manyDays(101, dryDay), impl.Water{Rain: -1}), nil, impl.ErrInvalid},
		{impl.Curve{}, 0, nil, nil, impl.ErrInvalid},
		{impl.Curve{}, 0, manyDays(101, dryDay), nil, impl.ErrInvalid},
		{curve(0, 0, 100, 1000000001), 0, daysWith(-1), nil, impl.ErrInvalid},
		{curve(100, 0, 0, 1000), 50, exampleDays(), nil, impl.ErrInvalid},
	}
	for _, v := range cases {
		if got, code := impl.LevelsOver(v.curve, v.level, v.list); !slices.Equal(got, v.want) || code != v.code {
			t.Errorf("LevelsOver(%v, %d, %v) = %v, %d", v.curve, v.level, v.list, got, code)
		}
	}
}

// countingBy returns many numbers, from the first one on by steps.
func countingBy(first, step int64, many int) []int64 {
	var list []int64
	for k := range int64(many) {
		list = append(list, first+k*step)
	}
	return list
}

func TestFirstOver(t *testing.T) {
	cases := []struct {
		start            int64
		list             []impl.Water
		most, want, code int64
	}{
		{500, exampleDays(), 530, 0, impl.OK},
		{500, exampleDays(), 539, 0, impl.OK},
		{500, exampleDays(), 540, 0, impl.ErrNotFound},
		{500, exampleDays(), 1000000000, 0, impl.ErrNotFound},
		{500, exampleDays(), 0, 0, impl.OK},
		{500, exampleDays()[1:], 479, 1, impl.OK},
		{500, exampleDays()[1:], 480, 0, impl.ErrNotFound},
		{500, exampleDays()[1:], 409, 0, impl.OK},
		{500, exampleDays()[1:], 410, 1, impl.OK},
		// The volume at the start is not one after a day.
		{500, nil, 0, 0, impl.ErrNotFound},
		{1000000000, []impl.Water{}, 0, 0, impl.ErrNotFound},
		{500, daysWith(-1), 499, 0, impl.ErrNotFound},
		{500, daysWith(-1), 498, 0, impl.OK},
		{500, daysWith(-1, 0, 1), 499, 2, impl.OK},
		{500, daysWith(0), 499, 0, impl.OK},
		{500, daysWith(0), 500, 0, impl.ErrNotFound},
		// What is missing while the volume is negative is missing later on, too.
		{0, daysWith(-5), 0, 0, impl.ErrNotFound},
		{0, daysWith(-5, 5), 0, 0, impl.ErrNotFound},
		{0, daysWith(-5, 6), 0, 1, impl.OK},
		{0, daysWith(-5, 3, 3), 0, 2, impl.OK},
		{0, daysWith(-5, 6), 1, 0, impl.ErrNotFound},
		{0, daysWith(5, -20, 10, 5, 1), 5, 0, impl.ErrNotFound},
		{0, daysWith(5, -20, 10, 5, 1), 4, 0, impl.OK},
		{0, daysWith(-20, 10, 5, 5, 1), 0, 4, impl.OK},
		{0, append(manyDays(40, dryDay), manyDays(60, wetDay)...), 0, 0, impl.ErrNotFound},
		{0, append(manyDays(40, wetDay), manyDays(60, dryDay)...), 799999999, 39, impl.OK},
		{1000000000, daysWith(0), 1000000000, 0, impl.ErrNotFound},
		{1000000000, daysWith(0, 1), 1000000000, 1, impl.OK},
		{0, append(manyDays(99, impl.Water{}), impl.Water{Rain: 1}), 0, 99, impl.OK},
		{0, append(manyDays(100, impl.Water{}), impl.Water{Rain: 1}), 0, 0, impl.ErrRange},
		{0, manyDays(101, wetDay), 0, 0, impl.ErrRange},
		{-1, exampleDays(), 0, 0, impl.ErrRange},
		{0, exampleDays(), -1, 0, impl.ErrRange},
		{1000000001, exampleDays(), 0, 0, impl.ErrRange},
		{0, exampleDays(), 1000000001, 0, impl.ErrRange},
		{math.MaxInt64, exampleDays(), math.MinInt64, 0, impl.ErrRange},
		{-1, append(exampleDays(), impl.Water{Seepage: -1}), -1, 0, impl.ErrInvalid},
		{500, append(exampleDays(), impl.Water{Seepage: 10000001}), 0, 0, impl.ErrInvalid},
		{500, append(manyDays(101, wetDay), impl.Water{Seepage: 10000001}), 0, 0, impl.ErrInvalid},
	}
	for _, v := range cases {
		if got, code := impl.FirstOver(v.start, v.list, v.most); got != v.want || code != v.code {
			t.Errorf("FirstOver(%d, %v, %d) = %d, %d", v.start, v.list, v.most, got, code)
		}
	}
}

func TestWorstDays(t *testing.T) {
	cases := []struct {
		list                []impl.Water
		from, to, sum, code int64
	}{
		{exampleDays(), 2, 2, 70, impl.OK},
		{nil, 0, 0, 0, impl.ErrNotFound},
		{[]impl.Water{}, 0, 0, 0, impl.ErrNotFound},
		{daysWith(5), 0, 0, 5, impl.OK},
		{daysWith(0), 0, 0, 0, impl.OK},
		{daysWith(-5), 0, 0, -5, impl.OK},
		// There is a day in any case, also where the water falls on all of them.
		{daysWith(-5, -3, -4), 1, 1, -3, impl.OK},
		{daysWith(-3, -3, -3), 0, 0, -3, impl.OK},
		{daysWith(-5, -4, -3), 2, 2, -3, impl.OK},
		{daysWith(-5, 0, -3), 1, 1, 0, impl.OK},
		{daysWith(-5, 0, 0, -3, 0), 1, 1, 0, impl.OK},
		{daysWith(1, 2, 3), 0, 2, 6, impl.OK},
		{daysWith(5, -2, 4), 0, 2, 7, impl.OK},
		{daysWith(5, -6, 4), 0, 0, 5, impl.OK},
		{daysWith(4, -6, 5), 2, 2, 5, impl.OK},
		{daysWith(5, -4, 5), 0, 2, 6, impl.OK},
		{daysWith(-2, 1, -3, 4, -1, 2, 1, -5, 4), 3, 6, 6, impl.OK},
		// Of several, those with the earliest first day, although they may be more days.
		{daysWith(5, -5, 5), 0, 0, 5, impl.OK},
		{daysWith(3, -5, 3), 0, 0, 3, impl.OK},
		{daysWith(2, -2, 5), 0, 2, 5, impl.OK},
		{daysWith(0, 5), 0, 1, 5, impl.OK},
		{daysWith(0, 0, 5), 0, 2, 5, impl.OK},
		{daysWith(-1, 0, 5), 1, 2, 5, impl.OK},
		{daysWith(-1, 2, -2, 5), 1, 3, 5, impl.OK},
		{daysWith(1, -2, 2, -2, 5), 2, 4, 5, impl.OK},
		{daysWith(5, -9, 2, -2, 5), 0, 0, 5, impl.OK},
		// And then those with the earliest last day.
		{daysWith(5, 0), 0, 0, 5, impl.OK},
		{daysWith(5, 0, 0), 0, 0, 5, impl.OK},
		{daysWith(5, -1, 1), 0, 0, 5, impl.OK},
		{daysWith(0, 5, 0), 0, 1, 5, impl.OK},
		{daysWith(0, 0, 0), 0, 0, 0, impl.OK},
		{daysWith(2, 3, -5, 5), 0, 1, 5, impl.OK},
		{manyDays(100, wetDay), 0, 99, 2000000000, impl.OK},
		{manyDays(100, dryDay), 0, 0, -30000000, impl.OK},
		{manyDays(100, impl.Water{}), 0, 0, 0, impl.OK},
		{append(manyDays(99, dryDay), impl.Water{}), 99, 99, 0, impl.OK},
		{append(manyDays(99, dryDay), fullDay), 99, 99, -10000000, impl.OK},
		{append(manyDays(99, impl.Water{}), wetDay), 0, 99, 20000000, impl.OK},
		{manyDays(101, wetDay), 0, 0, 0, impl.ErrRange},
		{append(exampleDays(), impl.Water{Evaporation: -1}), 0, 0, 0, impl.ErrInvalid},
		{append(manyDays(101, wetDay), impl.Water{Evaporation: -1}), 0, 0, 0, impl.ErrInvalid},
	}
	for _, v := range cases {
		if from, to, sum, code := impl.WorstDays(v.list); from != v.from || to != v.to || sum != v.sum || code != v.code {
			t.Errorf("WorstDays(%v) = %d, %d, %d, %d", v.list, from, to, sum, code)
		}
	}
}

func TestPumpedShare(t *testing.T) {
	cases := []struct {
		list           []impl.Water
		num, den, code int64
	}{
		{exampleDays(), 11, 17, impl.OK},
		{nil, 0, 0, impl.ErrNotFound},
		{[]impl.Water{}, 0, 0, impl.ErrNotFound},
		{manyDays(3, impl.Water{}), 0, 0, impl.ErrNotFound},
		{manyDays(100, wetDay), 0, 0, impl.ErrNotFound},
		{days(5, 5, 0, 0, 0), 0, 0, impl.ErrNotFound},
		{days(5, 5, 1, 0, 0), 0, 1, impl.OK},
		{days(5, 5, 0, 0, 7), 0, 1, impl.OK},
		{days(5, 5, 0, 1, 0), 1, 1, impl.OK},
		{days(0, 0, 0, 7, 0), 1, 1, impl.OK},
		{days(0, 0, 1, 1, 1), 1, 3, impl.OK},
		{days(9, 9, 2, 2, 2), 1, 3, impl.OK},
		{days(0, 0, 2, 1, 0), 1, 3, impl.OK},
		{days(0, 0, 0, 1, 2), 1, 3, impl.OK},
		{days(0, 0, 1, 0, 0, 0, 0, 0, 2, 0, 0, 0, 0, 0, 3), 1, 3, impl.OK},
		{days(0, 0, 0, 10000000, 0, 0, 0, 1, 0, 0), 10000000, 10000001, impl.OK},
		{days(0, 0, 0, 1, 0, 0, 0, 10000000, 0, 0), 1, 10000001, impl.OK},
		{manyDays(100, dryDay), 1, 3, impl.OK},
		{manyDays(100, fullDay), 1, 3, impl.OK},
		{append(manyDays(99, dryDay), impl.Water{Pumped: 1}), 990000001, 2970000001, impl.OK},
		{manyDays(101, dryDay), 0, 0, impl.ErrRange},
		{manyDays(101, impl.Water{}), 0, 0, impl.ErrRange},
		{days(0, 0, 1, 0, -1), 0, 0, impl.ErrInvalid},
		{append(manyDays(101, dryDay), impl.Water{Pumped: 10000001}), 0, 0, impl.ErrInvalid},
	}
	for _, v := range cases {
		if got, code := impl.PumpedShare(v.list); got != (impl.Fraction{Num: v.num, Den: v.den}) || code != v.code {
			t.Errorf("PumpedShare(%v) = %v, %d", v.list, got, code)
		}
	}
}

func TestMissingPumps(t *testing.T) {
	cases := []struct {
		start int64
		list  []impl.Water
		most  int64
		want  []int64
		code  int64
	}{
		{500, exampleDays(), 505, []int64{35, 0, 0}, impl.OK},
		{500, exampleDays(), 470, []int64{70, 0, 0}, impl.OK},
		{500, exampleDays(), 539, []int64{1, 0, 0}, impl.OK},
		{500, exampleDays(), 540, []int64{0, 0, 0}, impl.OK},
		{500, exampleDays(), 1000000000, []int64{0, 0, 0}, impl.OK},
		{500, exampleDays(), 0, []int64{540, 0, 0}, impl.OK},
		{500, exampleDays()[1:], 450, []int64{0, 30}, impl.OK},
		{500, exampleDays()[1:], 410, []int64{0, 70}, impl.OK},
		{500, exampleDays()[1:], 409, []int64{1, 70}, impl.OK},
		{500, nil, 0, nil, impl.OK},
		{0, []impl.Water{}, 1000000000, nil, impl.OK},
		// What has been pumped is missing on no later day.
		{0, daysWith(5, 5, 5), 0, []int64{5, 5, 5}, impl.OK},
		{0, daysWith(5, 5, 5), 5, []int64{0, 5, 5}, impl.OK},
		{0, daysWith(5, 5, 5), 7, []int64{0, 3, 5}, impl.OK},
		{0, daysWith(5, 0, 0), 0, []int64{5, 0, 0}, impl.OK},
		{9, daysWith(0, 0, 0), 5, []int64{4, 0, 0}, impl.OK},
		{9, daysWith(5, -3, 5, -3, 5), 9, []int64{5, 0, 2, 0, 2}, impl.OK},
		// The start may be too high, and the first day bring it down.
		{9, daysWith(-3), 5, []int64{1}, impl.OK},
		{9, daysWith(-4), 5, []int64{0}, impl.OK},
		{9, daysWith(-5), 5, []int64{0}, impl.OK},
		// A volume that would be negative stays so, and takes up water that comes later.
		{0, daysWith(-5), 0, []int64{0}, impl.OK},
		{0, daysWith(-5, 5), 0, []int64{0, 0}, impl.OK},
		{0, daysWith(-5, 6), 0, []int64{0, 1}, impl.OK},
		{0, daysWith(-5, 3, 3), 0, []int64{0, 0, 1}, impl.OK},
		{3, daysWith(-5, 6), 0, []int64{0, 4}, impl.OK},
		{3, daysWith(-5, 6), 4, []int64{0, 0}, impl.OK},
		{9, daysWith(5, -20, 18, 2), 5, []int64{9, 0, 0, 0}, impl.OK},
		{9, daysWith(5, -20, 18, 3), 5, []int64{9, 0, 0, 1}, impl.OK},
		{0, daysWith(-5, -5, 20), 0, []int64{0, 0, 10}, impl.OK},
		{1000000000, daysWith(0), 0, []int64{1000000000}, impl.OK},
		{1000000000, manyDays(2, wetDay), 0, []int64{1020000000, 20000000}, impl.OK},
		{1000000000, manyDays(2, wetDay), 1000000000, []int64{20000000, 20000000}, impl.OK},
		{0, manyDays(100, wetDay), 1000000000, append(filled(50, 0), filled(50, 20000000)...), impl.OK},
		{0, manyDays(100, wetDay), 999999999, slices.Concat(filled(49, 0), []int64{1}, filled(50, 20000000)), impl.OK},
		{0, append(manyDays(40, dryDay), manyDays(60, wetDay)...), 0, filled(100, 0), impl.OK},
		{0, append(manyDays(39, dryDay), manyDays(61, wetDay)...), 0, slices.Concat(filled(97, 0), []int64{10000000, 20000000, 20000000}), impl.OK},
		{0, manyDays(101, impl.Water{}), 0, nil, impl.ErrRange},
		{-1, exampleDays(), 0, nil, impl.ErrRange},
		{0, exampleDays(), -1, nil, impl.ErrRange},
		{1000000001, exampleDays(), 0, nil, impl.ErrRange},
		{0, exampleDays(), 1000000001, nil, impl.ErrRange},
		{math.MaxInt64, nil, math.MinInt64, nil, impl.ErrRange},
		{-1, append(exampleDays(), impl.Water{Rain: 10000001}), -1, nil, impl.ErrInvalid},
		{0, append(manyDays(101, wetDay), impl.Water{Rain: -1}), 0, nil, impl.ErrInvalid},
	}
	for _, v := range cases {
		if got, code := impl.MissingPumps(v.start, v.list, v.most); !slices.Equal(got, v.want) || code != v.code {
			t.Errorf("MissingPumps(%d, %v, %d) = %v, %d", v.start, v.list, v.most, got, code)
		}
	}
}

// checkSums holds the sums of a run against the definitions, amount by amount and day by day.
func checkSums(t *testing.T, list []impl.Water) {
	t.Helper()
	sum, code := impl.SumOfDays(list)
	nets := int64(0)
	for _, w := range list {
		net, netCode := impl.NetOf(w)
		if net != netBy(w) || netCode != impl.OK {
			t.Fatalf("NetOf(%v) = %d, %d", w, net, netCode)
		}
		nets += net
	}
	for k, got := range amountsOf(sum) {
		want := int64(0)
		for _, w := range list {
			want += amountsOf(w)[k]
		}
		if got != want || code != impl.OK {
			t.Fatalf("SumOfDays(%v) = %v, %d", list, sum, code)
		}
	}
	if netBy(sum) != nets {
		t.Fatalf("SumOfDays(%v) = %v, with the net %d instead of %d", list, sum, netBy(sum), nets)
	}
	f, code := impl.PumpedShare(list)
	if out := sum.Evaporation + sum.Pumped + sum.Sluiced; out == 0 {
		if f != (impl.Fraction{}) || code != impl.ErrNotFound {
			t.Fatalf("PumpedShare(%v) = %v, %d", list, f, code)
		}
	} else if d := divisorOf(sum.Pumped, out); f.Num*d != sum.Pumped || f.Den*d != out || code != impl.OK {
		t.Fatalf("PumpedShare(%v) = %v, %d, not %d / %d", list, f, code, sum.Pumped, out)
	}
}

// divisorOf is the greatest common divisor of two numbers, of which the second one is positive.
func divisorOf(a, b int64) int64 {
	if a == 0 {
		return b
	}
	return divisorOf(b%a, a)
}

// checkVolumes is promise 14 for the volumes of a run: they follow the nets, and the balance closes exactly.
func checkVolumes(t *testing.T, start int64, list []impl.Water) {
	t.Helper()
	got, code := impl.RunBalance(start, list)
	want, wantCode := volumesBy(start, list), int64(impl.OK)
	if len(want) > 0 && slices.Min(want) < 0 {
		want, wantCode = nil, impl.ErrState
	}
	if !slices.Equal(got, want) || code != wantCode {
		t.Fatalf("RunBalance(%d, %v) = %v, %d, not %v, %d", start, list, got, code, want, wantCode)
	}
	before := start
	for k, after := range got {
		if net, netCode := impl.NetOf(list[k]); after-before != net || after < 0 || netCode != impl.OK {
			t.Fatalf("RunBalance(%d, %v) = %v, with the net %d on the day %d", start, list, got, net, k)
		}
		before = after
	}
	end := start
	if len(list) > 0 {
		end = volumeBy(start, list, len(list)-1)
	}
	for _, told := range []int64{0, start, min(max(end, 0), 1000000000), 1000000000} {
		if n, closed := impl.ClosingError(start, told, list); n != told-end || closed != impl.OK {
			t.Fatalf("ClosingError(%d, %d, %v) = %d, %d", start, told, list, n, closed)
		}
	}
}

// checkLimit is promise 14 for a limit: with the pumps that are missing no volume is above it, and with less it would be.
func checkLimit(t *testing.T, start int64, list []impl.Water, most int64) {
	t.Helper()
	volumes := volumesBy(start, list)
	day, code := impl.FirstOver(start, list, most)
	want, wantCode := slices.IndexFunc(volumes, func(volume int64) bool { return volume > most }), int64(impl.OK)
	if want < 0 {
		want, wantCode = 0, impl.ErrNotFound
	}
	if day != int64(want) || code != wantCode {
		t.Fatalf("FirstOver(%d, %v, %d) = %d, %d, not %d, %d", start, list, most, day, code, want, wantCode)
	}
	missing, code := impl.MissingPumps(start, list, most)
	if !slices.Equal(missing, missingBy(start, list, most)) || code != impl.OK {
		t.Fatalf("MissingPumps(%d, %v, %d) = %v, %d, not %v", start, list, most, missing, code, missingBy(start, list, most))
	}
	pumped := int64(0)
	for k, more := range missing {
		pumped += more
		if after := volumes[k] - pumped; after > most || more < 0 || more > 0 && after != most {
			t.Fatalf("MissingPumps(%d, %v, %d) = %v, with the volume %d after the day %d", start, list, most, missing, after, k)
		}
	}
	checkPumped(t, start, list, most, missing)
}

// checkPumped runs a balance once more with the pumps that were missing, as far as there are such days.
func checkPumped(t *testing.T, start int64, list []impl.Water, most int64, missing []int64) {
	t.Helper()
	with := slices.Clone(list)
	for k, more := range missing {
		if with[k].Pumped += more; with[k].Pumped > 10000000 {
			return
		}
	}
	if day, code := impl.FirstOver(start, with, most); day != 0 || code != impl.ErrNotFound {
		t.Fatalf("from %d, %v is over %d on the day %d, %d", start, with, most, day, code)
	}
	if again, code := impl.MissingPumps(start, with, most); slices.ContainsFunc(again, func(n int64) bool { return n != 0 }) || code != impl.OK {
		t.Fatalf("from %d, %v for %d lacks %v, %d", start, with, most, again, code)
	}
}

// checkWorst holds the worst days of a run against all stretches of it.
func checkWorst(t *testing.T, list []impl.Water) {
	t.Helper()
	from, to, sum, code := impl.WorstDays(list)
	if len(list) == 0 {
		if from != 0 || to != 0 || sum != 0 || code != impl.ErrNotFound {
			t.Fatalf("WorstDays(%v) = %d, %d, %d, %d", list, from, to, sum, code)
		}
		return
	}
	if wantFrom, wantTo, wantSum := worstBy(list); from != wantFrom || to != wantTo || sum != wantSum || code != impl.OK {
		t.Fatalf("WorstDays(%v) = %d, %d, %d, %d, not %d, %d, %d", list, from, to, sum, code, wantFrom, wantTo, wantSum)
	}
}

// TestShortRunsByDefinition is promise 14 for all runs of up to 5 days with few nets: volumes that fall below 0, also where they rise
// again later, and limits that are reached exactly and passed by 1.
func TestShortRunsByDefinition(t *testing.T) {
	for length := range 6 {
		for _, nets := range shortLists(length, -2, 2) {
			list := daysWith(nets...)
			checkSums(t, list)
			checkWorst(t, list)
			for start := range int64(4) {
				checkVolumes(t, start, list)
				for most := range int64(5) {
					checkLimit(t, start, list, most)
				}
			}
		}
	}
}

// TestWorstDaysAgainstAll has many stretches with the same sum.
func TestWorstDaysAgainstAll(t *testing.T) {
	for length := range 9 {
		for _, nets := range shortLists(length, -1, 1) {
			checkWorst(t, daysWith(nets...))
		}
	}
	source := rand.New(rand.NewSource(41))
	for round := range 2000 {
		checkWorst(t, randomDays(source, round%101, int64(1+round%7)))
	}
}

// TestLongRunsByDefinition is promise 14 for runs of up to 100 days, with small and with the greatest amounts.
func TestLongRunsByDefinition(t *testing.T) {
	source := rand.New(rand.NewSource(42))
	for round := range 1500 {
		amount := []int64{3, 100, 5000, 10000000}[round%4]
		list := randomDays(source, []int{1, 7, 30, 99, 100}[round%5], amount)
		checkSums(t, list)
		checkWorst(t, list)
		for _, start := range []int64{0, amount, min(20*amount, 1000000000), 1000000000} {
			checkVolumes(t, start, list)
			volumes := volumesBy(start, list)
			for _, most := range []int64{0, start, slices.Max(volumes), slices.Max(volumes) - 1, volumes[len(volumes)/2], 1000000000} {
				checkLimit(t, start, list, min(max(most, 0), 1000000000))
			}
		}
	}
}

// TestLevelsByDefinition is promise 14 for the levels of a run: they are those of the volumes that follow the nets.
func TestLevelsByDefinition(t *testing.T) {
	source := rand.New(rand.NewSource(43))
	codes := map[int64]int{}
	for _, c := range slices.Concat(randomCurves(44, 8, 4, 3), randomCurves(45, 8, 20, 900), randomCurves(46, 8, 60, 2), []impl.Curve{bowl(), curve(-7, 0, 0, 3), evenCurve(12, 0, 1, 1)}) {
		for _, level := range levelsAround(c) {
			list := randomDays(source, source.Intn(8), 1+min(lastVolume(c)/6, 9999999))
			got, code := impl.LevelsOver(c, level, list)
			if want, wantCode := levelsBy(c, level, list); !slices.Equal(got, want) || code != wantCode {
				t.Fatalf("LevelsOver(%v, %d, %v) = %v, %d, not %v, %d", c, level, list, got, code, want, wantCode)
			}
			codes[code]++
			for k, after := range got {
				if n, atCode := impl.LevelAt(c, volumeBy(volumeOn(c, level), list, k)); n != after || atCode != impl.OK {
					t.Fatalf("LevelsOver(%v, %d, %v) = %v, not %d, %d after the day %d", c, level, list, got, n, atCode, k)
				}
			}
		}
	}
	if codes[impl.OK] < 300 || codes[impl.ErrState] < 300 || codes[impl.ErrFlood] < 300 {
		t.Errorf("the tests are one-sided: %v", codes)
	}
}

// watersText writes the water of a day by the definition of its text.
func watersText(w impl.Water) string {
	return fmt.Sprintf("rain %d seep %d dry %d pump %d sluice %d", w.Rain, w.Seepage, w.Evaporation, w.Pumped, w.Sluiced)
}

// textOfValidWater writes the water of a day by the definition of its text, if it has one.
func textOfValidWater(w impl.Water) string {
	if !isValidDay(w) {
		return "no water"
	}
	return watersText(w)
}

func isZeroWater(w impl.Water) bool { return w == impl.Water{} }

func TestWatersAreReadBack(t *testing.T) {
	if got := impl.WaterText(exampleDays()[0]); got != "rain 100 seep 20 dry 30 pump 50 sluice 0" {
		t.Errorf("WaterText(%v) = %q", exampleDays()[0], got)
	}
	source := rand.New(rand.NewSource(47))
	good := slices.Concat(exampleDays(), []impl.Water{{}, fullDay, wetDay, dryDay}, randomDays(source, 200, 12), randomDays(source, 200, 10000000))
	checkReadBack(t, good, badDays(), watersText, impl.WaterText, impl.ReadWater)
}

// TestReadWaterByNumber reads and writes water with numbers around all limits at each place.
func TestReadWaterByNumber(t *testing.T) {
	for _, n := range balanceNumbers {
		for _, w := range daysWithNumber(n) {
			got, ok := impl.ReadWater(watersText(w))
			if ok != isValidDay(w) || ok && got != w || !ok && !isZeroWater(got) {
				t.Errorf("ReadWater(%q) = %v, %v", watersText(w), got, ok)
			}
			if text := impl.WaterText(w); (text != "") != isValidDay(w) || ok && text != watersText(w) {
				t.Errorf("WaterText(%v) = %q", w, text)
			}
		}
	}
}

func TestNoTextsOfWater(t *testing.T) {
	checkNotRead(t, []string{
		"rain", "rain 100", "rain 100 seep 20", "rain 100 seep 20 dry 30 pump 50", "rain 100 seep 20 dry 30 pump 50 sluice", "rain 100 seep 20 dry 30 pump 50 sluice ", "100 20 30 50 0",
		"seep 20 dry 30 pump 50 sluice 0", "100 seep 20 dry 30 pump 50 sluice 0", "rain seep dry pump sluice", "rain  seep  dry  pump  sluice ", "rain 100 20 dry 30 pump 50 sluice 0",
		"seep 100 rain 20 dry 30 pump 50 sluice 0", "rain 100 seep 20 dry 30 sluice 50 pump 0", "rain 100 rain 20 rain 30 rain 50 rain 0", "seep 20 rain 100 dry 30 pump 50 sluice 0",
		" rain 100 seep 20 dry 30 pump 50 sluice 0", "rain 100 seep 20 dry 30 pump 50 sluice 0 ", "rain  100 seep 20 dry 30 pump 50 sluice 0", "rain 100 seep 20  dry 30 pump 50 sluice 0",
		"rain 100 seep 20 dry 30 pump 50 sluice 0\n", "rain\t100 seep 20 dry 30 pump 50 sluice 0", "rain 100\nseep 20 dry 30 pump 50 sluice 0", "rain100 seep 20 dry 30 pump 50 sluice 0",
		"rain 100 seep 20 dry 30 pump 50 sluice 0 0", "rain 100 seep 20 dry 30 pump 50 sluice 0 sluice 0", "rain rain 100 seep 20 dry 30 pump 50 sluice 0", "0 rain 100 seep 20 dry 30 pump 50 sluice 0",
		"rain 100 seep 20 dry 30 pump 50 sluice -1", "rain -1 seep 20 dry 30 pump 50 sluice 0", "rain 100 seep -1 dry 30 pump 50 sluice 0", "rain 100 seep 20 dry -1 pump 50 sluice 0",
		"rain 10000001 seep 20 dry 30 pump 50 sluice 0", "rain 100 seep 10000001 dry 30 pump 50 sluice 0", "rain 100 seep 20 dry 10000001 pump 50 sluice 0", "rain 100 seep 20 dry 30 pump 10000001 sluice 0",
		"rain 100 seep 20 dry 30 pump 50 sluice 10000001", "rain 0100 seep 20 dry 30 pump 50 sluice 0", "rain +100 seep 20 dry 30 pump 50 sluice 0", "rain 100 seep 20 dry 30 pump 50 sluice 00",
		"rain 100 seep 20 dry 30 pump 50 sluice -0", "rain 100 seep 20 dry 30 pump 50 sluice +0", "rain 100.0 seep 20 dry 30 pump 50 sluice 0", "rain 1e2 seep 20 dry 30 pump 50 sluice 0",
		"rain x seep 20 dry 30 pump 50 sluice 0", "rain 100 seep 20 dry 30 pump 50 sluice x", "rain 0 seep 0 dry 0 pump 0 sluice x", "Rain 100 seep 20 dry 30 pump 50 sluice 0", "rain 100 Seep 20 dry 30 pump 50 sluice 0",
		"rain 100 seepage 20 dry 30 pump 50 sluice 0", "rain 100 seep 20 evaporation 30 pump 50 sluice 0", "rain 100 seep 20 dry 30 pumped 50 sluice 0", "rain 100 seep 20 dry 30 pump 50 sluiced 0",
		"rain 18446744073709551716 seep 20 dry 30 pump 50 sluice 0", "rain 100 seep 20 dry 30 pump 50 sluice 18446744073709551616", "rain １00 seep 20 dry 30 pump 50 sluice 0", "rain\u00a0100 seep 20 dry 30 pump 50 sluice 0",
		"rain 100 seep 20 dry 30 pump 50 sluice 0\x00", "\x00rain 100 seep 20 dry 30 pump 50 sluice 0", "rain 100, seep 20, dry 30, pump 50, sluice 0", "rain " + strings.Repeat("1", 5000) + " seep 20 dry 30 pump 50 sluice 0",
		strings.Repeat("rain 100 seep 20 dry 30 pump 50 sluice 0", 500), "a b c d e f g h i j", "0 0 0 0 0 0 0 0 0 0", "x 0 x 0 x 0 x 0 x 0",
	}, impl.ReadWater, isZeroWater)
}

func TestReadWaterOnChanges(t *testing.T) {
	texts := []string{"rain 100 seep 20 dry 30 pump 50 sluice 0", "rain 0 seep 0 dry 0 pump 0 sluice 0", watersText(fullDay), "rain 1 seep 10000000 dry 9999999 pump 7 sluice 90"}
	checkReader(t, texts, impl.ReadWater, textOfValidWater, isZeroWater)
}

// balanceArguments are an argument of each kind for the functions of chapter 13; last is the end, or the most.
type balanceArguments struct {
	curve              impl.Curve
	level, start, last int64
	water              impl.Water
	list               []impl.Water
}

// calls are all functions of chapter 13 that return a code, with their results as texts, and the code at the end.
func (a balanceArguments) calls() map[string]string {
	return map[string]string{
		"NetOf":        fmt.Sprint(impl.NetOf(a.water)),
		"SumOfDays":    fmt.Sprint(impl.SumOfDays(a.list)),
		"RunBalance":   fmt.Sprint(impl.RunBalance(a.start, a.list)),
		"ClosingError": fmt.Sprint(impl.ClosingError(a.start, a.last, a.list)),
		"LevelsOver":   fmt.Sprint(impl.LevelsOver(a.curve, a.level, a.list)),
		"FirstOver":    fmt.Sprint(impl.FirstOver(a.start, a.list, a.last)),
		"WorstDays":    fmt.Sprint(impl.WorstDays(a.list)),
		"PumpedShare":  fmt.Sprint(impl.PumpedShare(a.list)),
		"MissingPumps": fmt.Sprint(impl.MissingPumps(a.start, a.list, a.last)),
	}
}

// noBalanceResults are the zero values of the results of the calls.
var noBalanceResults = map[string]string{
	"NetOf": "0", "SumOfDays": "{0 0 0 0 0}", "RunBalance": "[]", "ClosingError": "0", "LevelsOver": "[]", "FirstOver": "0", "WorstDays": "0 0 0", "PumpedShare": "{0 0}", "MissingPumps": "[]",
}

// otherCodes are the errors of the calls other than ErrInvalid and ErrRange, with a blank behind each of them.
var otherCodes = map[string]string{"RunBalance": "6 ", "LevelsOver": "6 10 ", "FirstOver": "3 ", "WorstDays": "3 ", "PumpedShare": "3 "}

// isValid tells by the definition of which calls the arguments are valid.
func (a balanceArguments) isValid() map[string]bool {
	areDays := !slices.ContainsFunc(a.list, func(w impl.Water) bool { return !isValidDay(w) })
	valid := map[string]bool{}
	for name := range noBalanceResults {
		valid[name] = areDays
	}
	valid["NetOf"] = isValidDay(a.water)
	valid["LevelsOver"] = areDays && impl.ValidCurve(a.curve)
	return valid
}

// isInRange tells by the definition of which calls the arguments, which are valid, are in range.
func (a balanceArguments) isInRange() map[string]bool {
	isFew := len(a.list) <= 100
	isStart, isLast := a.start >= 0 && a.start <= 1000000000, a.last >= 0 && a.last <= 1000000000
	isLevel := impl.ValidCurve(a.curve) && a.level >= lowestOf(a.curve) && a.level <= highestOf(a.curve)
	return map[string]bool{
		"NetOf": true, "SumOfDays": isFew, "RunBalance": isFew && isStart, "ClosingError": isFew && isStart && isLast, "LevelsOver": isFew && isLevel,
		"FirstOver": isFew && isStart && isLast, "WorstDays": isFew, "PumpedShare": isFew, "MissingPumps": isFew && isStart && isLast,
	}
}

// checkCodes has the first errors come just where they should, and other ones only where there may be some.
func (a balanceArguments) checkCodes(t *testing.T) {
	t.Helper()
	isValid, isInRange := a.isValid(), a.isInRange()
	for name, got := range a.calls() {
		checkErrors(t, name, a, got, noBalanceResults[name], isValid[name], isInRange[name])
		if code := codeIn(got); !strings.Contains(" 0 1 2 "+otherCodes[name], " "+code+" ") {
			t.Fatalf("%s with %v: %s", name, a, got)
		}
	}
}

// TestBalanceCodes looks at all functions with good and bad arguments of each kind, alone and together.
func TestBalanceCodes(t *testing.T) {
	good := balanceArguments{curve: bowl(), level: 0, start: 500, last: 520, water: exampleDays()[0], list: exampleDays()}
	good.checkCodes(t)
	balanceArguments{}.checkCodes(t)
	for _, c := range slices.Concat([]impl.Curve{bowl(), deepBowl(), evenCurve(12, 0, 1, 1)}, badCurves()) {
		for _, n := range append([]int64{-1999, -2000, -2001, 1999, 2000, 2001}, balanceNumbers...) {
			for _, list := range [][]impl.Water{nil, exampleDays(), days(0, 0, 0, 0, -1), manyDays(101, wetDay)} {
				a := good
				a.curve, a.level, a.list = c, n, list
				a.checkCodes(t)
				a.start = n
				a.checkCodes(t)
				a.last = n
				a.checkCodes(t)
				a.start = 500
				a.checkCodes(t)
			}
		}
	}
	for _, many := range []int{0, 1, 99, 100, 101, 5000} {
		for _, w := range []impl.Water{{}, wetDay, dryDay, fullDay, {Rain: -1}} {
			for _, n := range balanceNumbers {
				a := good
				a.list, a.water, a.start = manyDays(many, w), w, n
				a.checkCodes(t)
				a.start, a.last = 500, n
				a.checkCodes(t)
			}
		}
	}
}

// TestBalanceCodesByDay puts numbers around the limits at each day of a run, and at each of its amounts.
func TestBalanceCodesByDay(t *testing.T) {
	for _, many := range []int{1, 2, 100, 101} {
		for day := range many {
			for _, n := range balanceNumbers {
				for _, w := range daysWithNumber(n) {
					a := balanceArguments{curve: deepBowl(), level: 0, start: 1000000000, last: 1000000000, water: w, list: manyDays(many, impl.Water{Rain: 1})}
					a.list[day] = w
					a.checkCodes(t)
				}
			}
		}
	}
}

// markWater fills the capacity of a list of days, where a write would show.
var markWater = impl.Water{Rain: spareMark, Seepage: -spareMark, Evaporation: spareMark, Pumped: -spareMark, Sluiced: spareMark}

// withGuards returns the arguments with marks in the unused capacity of their lists, and a function that fails if one of
// the lists, or one of the marks, has been changed.
func (a balanceArguments) withGuards(t *testing.T) (balanceArguments, func()) {
	t.Helper()
	var unchanged [3]func()
	a.curve.Levels, unchanged[0] = guarded(t, a.curve.Levels, spareMark)
	a.curve.Volumes, unchanged[1] = guarded(t, a.curve.Volumes, spareMark)
	a.list, unchanged[2] = guarded(t, a.list, markWater)
	return a, together(t, unchanged[:]...)
}

// withCopies returns the arguments with copies of their lists, which have no unused capacity.
func (a balanceArguments) withCopies() balanceArguments {
	a.curve = copyOfCurve(a.curve)
	a.list = slices.Clip(slices.Clone(a.list))
	return a
}

// balanceRuns are arguments of all kinds.
func balanceRuns() []balanceArguments {
	source := rand.New(rand.NewSource(48))
	lists := [][]impl.Water{nil, {}, exampleDays(), manyDays(100, wetDay), manyDays(100, dryDay), manyDays(101, fullDay), manyDays(5000, impl.Water{}), badDays(), append(exampleDays(), impl.Water{Pumped: -1})}
	var runs []balanceArguments
	for _, c := range slices.Concat(allCurves()[:20], badCurves()) {
		for k, list := range lists {
			a := balanceArguments{curve: c, start: 500, last: 520, water: badDays()[k], list: list}
			if len(c.Levels) > 0 {
				a.level = c.Levels[0]
			}
			runs = append(runs, a)
			a.level, a.start, a.last = 2001, -1, 1000000001
			runs = append(runs, a)
		}
	}
	for round := range 300 {
		a := balanceArguments{curve: bowl(), level: source.Int63n(201) - 100, start: source.Int63n(200), last: source.Int63n(200), list: randomDays(source, round%15, 60)}
		a.water = randomDays(source, 1, 10000000)[0]
		runs = append(runs, a)
	}
	return runs
}

// TestBalanceFunctionsArePure is promise 1 for all functions of chapter 13: they return, change nothing, and give the same
// once more.
func TestBalanceFunctionsArePure(t *testing.T) {
	for _, a := range balanceRuns() {
		checkCallsPure(t, a)
		a.checkCodes(t)
		with, unchanged := a.withGuards(t)
		isValid, text, isSame := impl.ValidWater(with.water), impl.WaterText(with.water), impl.SameRun(with.list, a.list)
		unchanged()
		if impl.ValidWater(a.water) != isValid || impl.WaterText(a.water) != text || !isSame || !impl.SameRun(a.list, with.list) {
			t.Fatalf("%v is told to be valid: %v, with the text %q, and to be the same: %v", a, isValid, text, isSame)
		}
	}
	for _, text := range append(slices.Clone(oddTexts), "rain 100 seep 20 dry 30 pump 50 sluice 0") {
		first, ok := impl.ReadWater(text)
		if again, okAgain := impl.ReadWater(strings.Clone(text)); first != again || ok != okAgain {
			t.Errorf("ReadWater of %q differs", text)
		}
	}
}

// TestBalanceResultsAreNew is promise 1 as well: no result shares memory with an argument or with another one.
func TestBalanceResultsAreNew(t *testing.T) {
	for _, a := range balanceRuns() {
		with, unchanged := a.withGuards(t)
		for _, call := range []func() ([]int64, int64){
			func() ([]int64, int64) { return impl.RunBalance(with.start, with.list) },
			func() ([]int64, int64) { return impl.LevelsOver(with.curve, with.level, with.list) },
			func() ([]int64, int64) { return impl.MissingPumps(with.start, with.list, with.last) },
		} {
			checkFresh(t, func() []int64 { list, _ := call(); return list }, spareMark, unchanged)
		}
	}
}

// TestOneListForTheCurve gives the same memory to a function as the levels and as the volumes of a curve.
func TestOneListForTheCurve(t *testing.T) {
	for _, list := range append(oddLists(), []int64{0, 1}, []int64{0, 2, 2000}, countingUp(0, 11), countingUp(0, 12)) {
		for _, many := range []int{0, 3, 100, 101} {
			a := balanceArguments{curve: impl.Curve{Levels: list, Volumes: list}, level: 1, start: 2, last: 1, list: manyDays(many, impl.Water{Rain: 2, Sluiced: 1})}
			checkOneList(t, a, list)
			a.checkCodes(t)
		}
	}
}
