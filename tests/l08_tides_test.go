package tests

import (
	"fmt"
	"maps"
	"math"
	"math/big"
	"math/rand"
	"slices"
	"strings"
	"testing"

	"loop.example/g01032/impl"
)

// tides returns elements of a table, each of them told by its minute and its level.
func tides(numbers ...int64) []impl.Tide {
	var list []impl.Tide
	for pair := range slices.Chunk(numbers, 2) {
		list = append(list, impl.Tide{Minute: pair[0], Level: pair[1]})
	}
	return list
}

// swaying returns many elements, always as many minutes after the one before, with two levels in turn.
func swaying(many int, minutes, first, second int64) []impl.Tide {
	var list []impl.Tide
	for k := range int64(many) {
		list = append(list, impl.Tide{Minute: k * minutes, Level: first})
		first, second = second, first
	}
	return list
}

// smallTables are all tables of 2 to 4 elements with some levels and a few minutes between them.
func smallTables() [][]impl.Tide {
	var tables [][]impl.Tide
	longest := [][]impl.Tide{tides(0, -2), tides(0, 0), tides(3, 1), tides(0, 3)}
	for range 3 {
		var longer [][]impl.Tide
		for _, list := range longest {
			for _, minutes := range []int64{1, 2, 5} {
				for _, level := range []int64{-2, 0, 1, 3} {
					next := impl.Tide{Minute: list[len(list)-1].Minute + minutes, Level: level}
					longer = append(longer, slices.Concat(list, []impl.Tide{next}))
				}
			}
		}
		longest = slices.DeleteFunc(longer, func(list []impl.Tide) bool { return !inTurn(list) })
		tables = append(tables, longest...)
	}
	return tables
}

// randomTables returns tables of 2 to 40 elements, always the same ones, where the minutes grow, and the levels
// rise and fall, at most by some numbers from an element to the next one.
func randomTables(seed, minutes, height int64) [][]impl.Tide {
	source := rand.New(rand.NewSource(seed))
	var tables [][]impl.Tide
	for many := 2; many <= 40; many++ {
		minute, level, by := source.Int63n(minutes), source.Int63n(31)-15, 1-2*source.Int63n(2)
		var list []impl.Tide
		for range many {
			list = append(list, impl.Tide{Minute: minute, Level: level})
			minute += 1 + source.Int63n(minutes)
			level = max(-1999, min(1999, level+by*(1+source.Int63n(height))))
			if last := list[len(list)-1].Level; level == last {
				level += by
			}
			by = -by
		}
		tables = append(tables, list)
	}
	return tables
}

// limitTables are tables that reach a limit, with few and with many elements.
func limitTables() [][]impl.Tide {
	return [][]impl.Tide{
		tides(0, 0, 10, 100, 20, 0), tides(0, 0, 1, 1), tides(0, 0, 1, -1), tides(5, 7, 6, 8), tides(99999, 1, 100000, 0), tides(0, -2000, 100000, 2000),
		tides(0, 2000, 100000, -2000), tides(0, -2000, 1, 2000), tides(99999, 2000, 100000, -2000), tides(0, 0, 100000, 1), tides(0, 0, 99991, -1),
		tides(0, -2000, 99999, 2000, 100000, -2000), tides(0, 2000, 1, -2000, 100000, 2000), tides(0, -2000, 7, -1999, 14, -2000), tides(0, 2000, 7, 1999, 14, 2000),
		tides(0, 0, 3, 1, 6, 0, 9, 1), tides(0, 50, 10, 100, 20, 50, 30, 60, 40, 50), tides(0, 5, 1, 6, 2, 5, 3, 6, 4, 5), tides(0, 1, 1, 0, 2, 1), tides(100, -5, 101, 5, 103, -7, 110, 7),
		swaying(39, 1, 0, 1), swaying(40, 1, 0, 1), swaying(40, 1, -2000, 2000), swaying(40, 2564, 2000, -2000), swaying(40, 2564, -1, 1), swaying(40, 3, 7, -7),
		append(swaying(39, 1, 5, 2000), impl.Tide{Minute: 100000, Level: 2000}),
	}
}

func allTables() [][]impl.Tide {
	return slices.Concat(limitTables(), smallTables(), randomTables(1, 4, 5), randomTables(2, 9, 2), randomTables(3, 60, 300), randomTables(4, 2500, 2500), randomTables(5, 1, 9))
}

// shortTables are tables with few minutes, of which one can look at each one.
func shortTables() [][]impl.Tide {
	return slices.DeleteFunc(allTables(), func(list []impl.Tide) bool { return list[len(list)-1].Minute-list[0].Minute > 300 })
}

// badTables are lists that are no table.
func badTables() [][]impl.Tide {
	tables := [][]impl.Tide{
		nil, {}, tides(0, 0), tides(7, 5), {{}}, {{}, {}}, tides(0, 7, 5, 7), tides(0, 0, 5, 5, 10, 5), tides(0, 5, 5, 5, 10, 0), tides(0, 0, 5, 5, 10, 6), tides(0, 6, 5, 5, 10, 0),
		tides(0, 0, 5, 5, 10, 0, 15, 0), tides(0, 0, 0, 5), tides(5, 0, 4, 5), tides(5, 0, 5, 5, 6, 0), tides(5, 0, 6, 5, 6, 0), tides(5, 0, 7, 5, 6, 0), tides(10, 0, 5, 5, 0, 0),
		tides(-1, 0, 5, 5), tides(0, 0, 100001, 5), tides(0, 0, 5, 5, 100001, 0), tides(0, -2001, 5, 0), tides(0, 2001, 5, 0), tides(0, 0, 5, -2001), tides(0, 0, 5, 2001),
		tides(0, 0, 5, 2001, 10, 0), tides(0, 0, 5, -2001, 10, 0), tides(0, -2001, 100001, 2001), tides(0, -2001, 0, -2001), tides(-1, 0, 0, 0), tides(0, 0, 5, 5, 6, 4, 7, 3),
		swaying(41, 1, 0, 1), swaying(41, 2500, -2000, 2000), swaying(10000, 1, 0, 1), swaying(40, 2565, 0, 1), swaying(40, 1, 0, 0), swaying(40, 0, 0, 1), swaying(40, -1, 0, 1), swaying(1, 1, 0, 1),
		append(swaying(39, 1, 0, 1), impl.Tide{Minute: 39}), append(swaying(39, 1, 0, 1), impl.Tide{Minute: 38, Level: 1}), append(swaying(39, 1, 0, 1), impl.Tide{Minute: 39, Level: 2001}),
	}
	for _, n := range extremes {
		if n < -1 || n > 1 {
			tables = append(tables, tides(n, 0, 5, 5), tides(0, 0, n, 5), tides(0, n, 5, 5), tides(0, 0, 5, n), tides(0, 0, 5, 5, n, 0), tides(n, n, n, n), tides(0, n, 5, -n))
		}
	}
	return append(tables, tides(math.MinInt64, math.MinInt64, math.MaxInt64, math.MaxInt64), tides(math.MaxInt64, math.MaxInt64, math.MinInt64, math.MinInt64))
}

// inTurn tells by the definition whether each element is a high or a low water.
func inTurn(list []impl.Tide) bool {
	for k := range list {
		if !isHighBy(list, k) && !isLowBy(list, k) {
			return false
		}
	}
	return true
}

func isHighBy(list []impl.Tide, k int) bool {
	for i, other := range list {
		if (i == k-1 || i == k+1) && other.Level >= list[k].Level {
			return false
		}
	}
	return true
}

func isLowBy(list []impl.Tide, k int) bool {
	for i, other := range list {
		if (i == k-1 || i == k+1) && other.Level <= list[k].Level {
			return false
		}
	}
	return true
}

// tideBy is the level at a minute by the definition, as a number and what it is divided by: the mean of the
// levels of both elements around it, by the minutes to the other one.
func tideBy(list []impl.Tide, minute int64) (int64, int64) {
	k := 0
	for list[k+1].Minute < minute {
		k++
	}
	after, before := minute-list[k].Minute, list[k+1].Minute-minute
	return list[k].Level*before + list[k+1].Level*after, before + after
}

// isBelowBy tells by the definition whether the tide is below a level at a minute.
func isBelowBy(list []impl.Tide, level, minute int64) bool {
	num, den := tideBy(list, minute)
	return num < level*den
}

// lowest returns a fraction in lowest terms.
func lowest(num, den int64) impl.Fraction {
	r := big.NewRat(num, den)
	return impl.Fraction{Num: r.Num().Int64(), Den: r.Denom().Int64()}
}

func firstMinute(list []impl.Tide) int64 { return list[0].Minute }

func lastMinute(list []impl.Tide) int64 { return list[len(list)-1].Minute }

// minutesAround are minutes of a table: those of its elements, those next to them, and some in between.
func minutesAround(list []impl.Tide) []int64 {
	var minutes []int64
	for k, tide := range list {
		minutes = append(minutes, tide.Minute-1, tide.Minute, tide.Minute+1)
		if k > 0 {
			minutes = append(minutes, (list[k-1].Minute+tide.Minute)/2, (2*list[k-1].Minute+tide.Minute)/3)
		}
	}
	slices.Sort(minutes)
	return slices.DeleteFunc(slices.Compact(minutes), func(minute int64) bool { return minute < firstMinute(list) || minute > lastMinute(list) })
}

// tideLevels are levels: those of all high and low waters, those next to them, some in between, and the limits.
func tideLevels(list []impl.Tide) []int64 {
	levels := []int64{-2000, -1999, 0, 1999, 2000}
	for k, tide := range list {
		levels = append(levels, tide.Level-1, tide.Level, tide.Level+1)
		if k > 0 {
			levels = append(levels, (list[k-1].Level+tide.Level)/2)
		}
	}
	slices.Sort(levels)
	return slices.DeleteFunc(slices.Compact(levels), func(level int64) bool { return level < -2000 || level > 2000 })
}

func TestValidTides(t *testing.T) {
	if impl.MaxTides != 40 || impl.MaxMinute != 100000 {
		t.Error("the limits are wrong")
	}
	checkValidity(t, impl.ValidTides, allTables(), badTables())
	for many := range 45 {
		if got := impl.ValidTides(swaying(many, 10, 5, -5)); got != (many >= 2 && many <= 40) {
			t.Errorf("%d elements: %v", many, got)
		}
	}
}

// TestValidTidesByElement puts numbers around the limits, and around those next to them, at each element.
func TestValidTidesByElement(t *testing.T) {
	for _, many := range []int{2, 3, 4, 40} {
		for k := range many {
			for _, n := range append([]int64{-2001, -2000, -6, -5, -4, 4, 5, 6, 2000, 2001, 99999, 100000, 100001, int64(10*k) - 10, int64(10*k) - 9, int64(10*k) + 9, int64(10*k) + 10}, extremes...) {
				minute, level := swaying(many, 10, 5, -5), swaying(many, 10, 5, -5)
				minute[k].Minute, level[k].Level = n, n
				want := n >= 0 && n <= 100000 && (k == 0 || minute[k-1].Minute < n) && (k == many-1 || n < minute[k+1].Minute)
				if got := impl.ValidTides(minute); got != want {
					t.Errorf("ValidTides with the minute %d at %d of %d = %v", n, k, many, got)
				}
				if got := impl.ValidTides(level); got != (n >= -2000 && n <= 2000 && inTurn(level)) {
					t.Errorf("ValidTides with the level %d at %d of %d = %v", n, k, many, got)
				}
			}
		}
	}
}

// TestHighAndLowWatersInTurn looks at all lists of up to 6 elements with few levels and with few minutes.
func TestHighAndLowWatersInTurn(t *testing.T) {
	for _, text := range textsOver("012", 6) {
		var levels, minutes []impl.Tide
		increasing := true
		for k := range text {
			n := int64(text[k] - '0')
			levels = append(levels, impl.Tide{Minute: int64(k), Level: n})
			minutes = append(minutes, impl.Tide{Minute: n, Level: int64(k % 2)})
			increasing = increasing && (k == 0 || text[k-1] < text[k])
		}
		if got := impl.ValidTides(levels); got != (len(text) >= 2 && inTurn(levels)) {
			t.Errorf("ValidTides(%v) = %v", levels, got)
		}
		if got := impl.ValidTides(minutes); got != (len(text) >= 2 && increasing) {
			t.Errorf("ValidTides(%v) = %v", minutes, got)
		}
	}
}

func TestSameTides(t *testing.T) {
	different := [][]impl.Tide{
		nil, tides(0, 0), tides(0, 1), tides(1, 0), tides(0, 0, 10, 100), tides(10, 100, 0, 0), tides(0, 0, 10, 101), tides(0, 0, 11, 100), tides(0, 0, 10, 100, 20, 0),
		tides(0, 0, 0, 0), tides(math.MaxInt64, 0), tides(0, math.MinInt64), swaying(40, 1, 0, 1), swaying(41, 1, 0, 1), swaying(40, 1, 1, 0),
	}
	checkDiffer(t, different, slices.Clone[[]impl.Tide], impl.SameTides)
	if !impl.SameTides(nil, []impl.Tide{}) || !impl.SameTides([]impl.Tide{}, nil) {
		t.Error("nil and empty lists are told to differ")
	}
}

func TestTideAt(t *testing.T) {
	example := tides(0, 0, 10, 100, 20, 0)
	cases := []struct {
		list     []impl.Tide
		minute   int64
		num, den int64
		code     int64
	}{
		{example, 0, 0, 1, impl.OK},
		{example, 1, 10, 1, impl.OK},
		{example, 5, 50, 1, impl.OK},
		{example, 9, 90, 1, impl.OK},
		{example, 10, 100, 1, impl.OK},
		{example, 11, 90, 1, impl.OK},
		{example, 19, 10, 1, impl.OK},
		{example, 20, 0, 1, impl.OK},
		{example, 21, 0, 0, impl.ErrRange},
		{example, -1, 0, 0, impl.ErrRange},
		{example, math.MaxInt64, 0, 0, impl.ErrRange},
		{example, math.MinInt64, 0, 0, impl.ErrRange},
		{tides(5, 0, 8, 1), 4, 0, 0, impl.ErrRange},
		{tides(5, 0, 8, 1), 5, 0, 1, impl.OK},
		{tides(5, 0, 8, 1), 6, 1, 3, impl.OK},
		{tides(5, 0, 8, 1), 7, 2, 3, impl.OK},
		{tides(5, 0, 8, 1), 8, 1, 1, impl.OK},
		{tides(5, 0, 8, 1), 9, 0, 0, impl.ErrRange},
		{tides(0, 0, 4, -2), 1, -1, 2, impl.OK},
		{tides(0, 0, 4, -2), 3, -3, 2, impl.OK},
		{tides(0, -1, 6, 3), 1, -1, 3, impl.OK},
		{tides(0, -1, 2, 1), 1, 0, 1, impl.OK},
		{tides(0, 0, 100000, 1), 99999, 99999, 100000, impl.OK},
		{tides(0, 0, 100000, 1), 50000, 1, 2, impl.OK},
		{tides(0, 2000, 100000, -2000), 99999, -49999, 25, impl.OK},
		{tides(0, -2000, 100000, 2000), 100000, 2000, 1, impl.OK},
		{tides(0, -2000, 100000, 2000), 100001, 0, 0, impl.ErrRange},
		{nil, 0, 0, 0, impl.ErrInvalid},
		{[]impl.Tide{}, 0, 0, 0, impl.ErrInvalid},
		{tides(0, 0), 0, 0, 0, impl.ErrInvalid},
		{tides(0, 7, 5, 7), 3, 0, 0, impl.ErrInvalid},
		{tides(0, 7, 5, 7), 6, 0, 0, impl.ErrInvalid},
		{swaying(41, 1, 0, 1), 0, 0, 0, impl.ErrInvalid},
	}
	for _, c := range cases {
		if got, code := impl.TideAt(c.list, c.minute); got != (impl.Fraction{Num: c.num, Den: c.den}) || code != c.code {
			t.Errorf("TideAt(%v, %d) = %v, %d", c.list, c.minute, got, code)
		}
	}
}

// TestTidesByMinute goes along many tables, and holds each minute against the definition.
func TestTidesByMinute(t *testing.T) {
	for _, list := range allTables() {
		for _, minute := range minutesAround(list) {
			want := lowest(tideBy(list, minute))
			if got, code := impl.TideAt(list, minute); got != want || code != impl.OK {
				t.Fatalf("TideAt(%v, %d) = %v, %d, not %v", list, minute, got, code, want)
			}
		}
		for _, tide := range list {
			if got, _ := impl.TideAt(list, tide.Minute); got != (impl.Fraction{Num: tide.Level, Den: 1}) {
				t.Fatalf("TideAt(%v, %d) = %v", list, tide.Minute, got)
			}
		}
		for _, minute := range []int64{firstMinute(list) - 2, firstMinute(list) - 1, lastMinute(list) + 1, lastMinute(list) + 2} {
			if got, code := impl.TideAt(list, minute); got != (impl.Fraction{}) || code != impl.ErrRange {
				t.Fatalf("TideAt(%v, %d) = %v, %d", list, minute, got, code)
			}
		}
	}
}

func TestHighWaters(t *testing.T) {
	cases := []struct {
		list []impl.Tide
		want []int64
		code int64
	}{
		{tides(0, 0, 10, 100, 20, 0), []int64{1}, impl.OK},
		{tides(0, 100, 10, 0, 20, 100), []int64{0, 2}, impl.OK},
		{tides(0, 0, 1, 1), []int64{1}, impl.OK},
		{tides(0, 1, 1, 0), []int64{0}, impl.OK},
		{tides(0, -5, 1, -7, 2, 3, 3, 2, 4, 9), []int64{0, 2, 4}, impl.OK},
		{swaying(40, 1, 0, 1), []int64{1, 3, 5, 7, 9, 11, 13, 15, 17, 19, 21, 23, 25, 27, 29, 31, 33, 35, 37, 39}, impl.OK},
		{nil, nil, impl.ErrInvalid},
		{tides(0, 0), nil, impl.ErrInvalid},
		{tides(0, 0, 5, 5, 10, 6), nil, impl.ErrInvalid},
		{swaying(41, 1, 0, 1), nil, impl.ErrInvalid},
	}
	for _, c := range cases {
		if got, code := impl.HighWaters(c.list); !slices.Equal(got, c.want) || code != c.code {
			t.Errorf("HighWaters(%v) = %v, %d", c.list, got, code)
		}
	}
}

func TestRangesOf(t *testing.T) {
	cases := []struct {
		list []impl.Tide
		want []int64
		code int64
	}{
		{tides(0, 0, 10, 100, 20, 0), []int64{100, 100}, impl.OK},
		{tides(0, 100, 10, -50, 20, 7), []int64{150, 57}, impl.OK},
		{tides(0, 0, 1, 1), []int64{1}, impl.OK},
		{tides(0, 1, 1, 0), []int64{1}, impl.OK},
		{tides(0, 2000, 1, -2000), []int64{4000}, impl.OK},
		{swaying(40, 1, -2000, 2000), filled(39, 4000), impl.OK},
		{nil, nil, impl.ErrInvalid},
		{tides(0, 0), nil, impl.ErrInvalid},
		{tides(0, 0, 5, 0), nil, impl.ErrInvalid},
		{swaying(41, 1, 0, 1), nil, impl.ErrInvalid},
	}
	for _, c := range cases {
		if got, code := impl.RangesOf(c.list); !slices.Equal(got, c.want) || code != c.code {
			t.Errorf("RangesOf(%v) = %v, %d", c.list, got, code)
		}
	}
}

// TestHighWatersAndRanges holds the high waters and the ranges of many tables against the definitions.
func TestHighWatersAndRanges(t *testing.T) {
	for _, list := range allTables() {
		var high, ranges []int64
		for k, tide := range list {
			if isHighBy(list, k) {
				high = append(high, int64(k))
			}
			if k > 0 {
				ranges = append(ranges, max(tide.Level, list[k-1].Level)-min(tide.Level, list[k-1].Level))
			}
		}
		if got, code := impl.HighWaters(list); !slices.Equal(got, high) || code != impl.OK {
			t.Fatalf("HighWaters(%v) = %v, %d, not %v", list, got, code, high)
		}
		if got, code := impl.RangesOf(list); !slices.Equal(got, ranges) || code != impl.OK {
			t.Fatalf("RangesOf(%v) = %v, %d, not %v", list, got, code, ranges)
		}
	}
}

func TestSpellsBelow(t *testing.T) {
	example := tides(0, 0, 10, 100, 20, 0)
	upside := tides(0, 100, 10, 0, 20, 100)
	cases := []struct {
		list  []impl.Tide
		level int64
		want  []impl.Spell
		code  int64
	}{
		{example, 50, []impl.Spell{{From: 0, To: 4}, {From: 16, To: 20}}, impl.OK},
		{example, 51, []impl.Spell{{From: 0, To: 5}, {From: 15, To: 20}}, impl.OK},
		{example, 49, []impl.Spell{{From: 0, To: 4}, {From: 16, To: 20}}, impl.OK},
		{example, -1, nil, impl.OK},
		{example, 0, nil, impl.OK},
		{example, 1, []impl.Spell{{From: 0, To: 0}, {From: 20, To: 20}}, impl.OK},
		{example, 99, []impl.Spell{{From: 0, To: 9}, {From: 11, To: 20}}, impl.OK},
		{example, 100, []impl.Spell{{From: 0, To: 9}, {From: 11, To: 20}}, impl.OK},
		{example, 101, []impl.Spell{{From: 0, To: 20}}, impl.OK},
		{example, 2000, []impl.Spell{{From: 0, To: 20}}, impl.OK},
		{example, -2000, nil, impl.OK},
		{example, 2001, nil, impl.ErrRange},
		{example, -2001, nil, impl.ErrRange},
		{example, math.MaxInt64, nil, impl.ErrRange},
		{example, math.MinInt64, nil, impl.ErrRange},
		{upside, 0, nil, impl.OK},
		{upside, 1, []impl.Spell{{From: 10, To: 10}}, impl.OK},
		{upside, 10, []impl.Spell{{From: 10, To: 10}}, impl.OK},
		{upside, 11, []impl.Spell{{From: 9, To: 11}}, impl.OK},
		{upside, 100, []impl.Spell{{From: 1, To: 19}}, impl.OK},
		{upside, 101, []impl.Spell{{From: 0, To: 20}}, impl.OK},
		{tides(0, 50, 10, 100, 20, 50, 30, 60, 40, 50), 60, []impl.Spell{{From: 0, To: 1}, {From: 19, To: 29}, {From: 31, To: 40}}, impl.OK},
		{tides(0, 50, 10, 100, 20, 50, 30, 60, 40, 50), 61, []impl.Spell{{From: 0, To: 2}, {From: 18, To: 40}}, impl.OK},
		{tides(0, 0, 1, 100, 2, 0), 50, []impl.Spell{{From: 0, To: 0}, {From: 2, To: 2}}, impl.OK},
		{tides(0, 0, 1, 100, 2, 0), 100, []impl.Spell{{From: 0, To: 0}, {From: 2, To: 2}}, impl.OK},
		{tides(0, 100, 1, 0, 2, 100), 50, []impl.Spell{{From: 1, To: 1}}, impl.OK},
		{tides(0, 0, 3, 1), 1, []impl.Spell{{From: 0, To: 2}}, impl.OK},
		{tides(0, 0, 3, -1), 0, []impl.Spell{{From: 1, To: 3}}, impl.OK},
		{tides(0, -1, 3, 1), 0, []impl.Spell{{From: 0, To: 1}}, impl.OK},
		{tides(0, -1, 4, 1), 0, []impl.Spell{{From: 0, To: 1}}, impl.OK},
		{tides(0, -1, 5, 1), 0, []impl.Spell{{From: 0, To: 2}}, impl.OK},
		{tides(0, -2000, 100000, 2000), -2000, nil, impl.OK},
		{tides(0, -2000, 100000, 2000), -1999, []impl.Spell{{From: 0, To: 24}}, impl.OK},
		{tides(0, -2000, 100000, 2000), 2000, []impl.Spell{{From: 0, To: 99999}}, impl.OK},
		{tides(0, 2000, 100000, -2000), 2000, []impl.Spell{{From: 1, To: 100000}}, impl.OK},
		{tides(0, 2000, 100000, -2000), -1999, []impl.Spell{{From: 99976, To: 100000}}, impl.OK},
		{tides(7, 2000, 8, 1999), 2000, []impl.Spell{{From: 8, To: 8}}, impl.OK},
		{nil, 0, nil, impl.ErrInvalid},
		{nil, 2001, nil, impl.ErrInvalid},
		{tides(0, 0), 5, nil, impl.ErrInvalid},
		{tides(0, 7, 5, 7), 8, nil, impl.ErrInvalid},
		{swaying(41, 1, 0, 1), 1, nil, impl.ErrInvalid},
	}
	for _, c := range cases {
		if got, code := impl.SpellsBelow(c.list, c.level); !slices.Equal(got, c.want) || code != c.code {
			t.Errorf("SpellsBelow(%v, %d) = %v, %d, not %v, %d", c.list, c.level, got, code, c.want, c.code)
		}
	}
}

// belowBy returns by the definition all minutes of a table at which the tide is below a level, and the longest
// stretches of them.
func belowBy(list []impl.Tide, level int64) ([]int64, []impl.Spell) {
	var minutes []int64
	var spells []impl.Spell
	for minute := firstMinute(list); minute <= lastMinute(list); minute++ {
		if !isBelowBy(list, level, minute) {
			continue
		}
		if len(minutes) == 0 || minutes[len(minutes)-1] < minute-1 {
			spells = append(spells, impl.Spell{From: minute})
		}
		minutes = append(minutes, minute)
		spells[len(spells)-1].To = minute
	}
	return minutes, spells
}

// checkBelow holds all that is told of the minutes below a level against the definition.
func checkBelow(t *testing.T, list []impl.Tide, level int64) {
	t.Helper()
	minutes, spells := belowBy(list, level)
	if got, code := impl.SpellsBelow(list, level); !slices.Equal(got, spells) || code != impl.OK {
		t.Fatalf("SpellsBelow(%v, %d) = %v, %d, not %v", list, level, got, code, spells)
	}
	if got, code := impl.MinutesBelow(list, level); got != int64(len(minutes)) || code != impl.OK {
		t.Fatalf("MinutesBelow(%v, %d) = %d, %d, not %d", list, level, got, code, len(minutes))
	}
	for _, minute := range minutesAround(list) {
		k, _ := slices.BinarySearch(minutes, minute)
		want, wantCode := int64(0), int64(impl.ErrNotFound)
		if k < len(minutes) {
			want, wantCode = minutes[k], impl.OK
		}
		if got, code := impl.NextBelow(list, level, minute); got != want || code != wantCode {
			t.Fatalf("NextBelow(%v, %d, %d) = %d, %d, not %d, %d", list, level, minute, got, code, want, wantCode)
		}
	}
}

// TestMinutesAreBelowByDefinition is promise 9 against the definition, at all levels of short tables, among
// them those of high and low waters.
func TestMinutesAreBelowByDefinition(t *testing.T) {
	for _, list := range shortTables() {
		for _, level := range tideLevels(list) {
			checkBelow(t, list, level)
		}
	}
	for _, list := range slices.Concat(limitTables(), randomTables(6, 2000, 4000)[30:]) {
		for i, level := range tideLevels(list) {
			if lastMinute(list)-firstMinute(list) > 300 && i%7 == 1 {
				checkBelow(t, list, level)
			}
		}
	}
}

// TestMinutesAreBelow is promise 9: a minute is told to be below a level just if the tide is, as TideAt tells.
func TestMinutesAreBelow(t *testing.T) {
	for _, list := range shortTables() {
		var levels []impl.Fraction
		for minute := firstMinute(list); minute <= lastMinute(list); minute++ {
			level, _ := impl.TideAt(list, minute)
			levels = append(levels, level)
		}
		for _, level := range tideLevels(list) {
			spells, _ := impl.SpellsBelow(list, level)
			for i, tide := range levels {
				minute := firstMinute(list) + int64(i)
				told := slices.ContainsFunc(spells, func(s impl.Spell) bool { return s.From <= minute && minute <= s.To })
				if told != (tide.Num < level*tide.Den) {
					t.Fatalf("SpellsBelow(%v, %d) = %v, but the tide at %d is %v", list, level, spells, minute, tide)
				}
				if next, code := impl.NextBelow(list, level, minute); told != (code == impl.OK && next == minute) {
					t.Fatalf("NextBelow(%v, %d, %d) = %d, %d, but the tide is %v", list, level, minute, next, code, tide)
				}
			}
		}
	}
}

func TestMinutesBelow(t *testing.T) {
	example := tides(0, 0, 10, 100, 20, 0)
	cases := []struct {
		list              []impl.Tide
		level, want, code int64
	}{
		{example, 50, 10, impl.OK},
		{example, 51, 12, impl.OK},
		{example, 0, 0, impl.OK},
		{example, 1, 2, impl.OK},
		{example, 100, 20, impl.OK},
		{example, 101, 21, impl.OK},
		{example, 2000, 21, impl.OK},
		{example, 2001, 0, impl.ErrRange},
		{example, -2000, 0, impl.OK},
		{example, -2001, 0, impl.ErrRange},
		{example, math.MaxInt64, 0, impl.ErrRange},
		{example, math.MinInt64, 0, impl.ErrRange},
		{tides(0, -2000, 100000, 1999), 2000, 100001, impl.OK},
		{tides(0, -2000, 100000, 2000), 2000, 100000, impl.OK},
		{tides(0, -2000, 100000, 2000), -2000, 0, impl.OK},
		{swaying(40, 1, 0, 1), 1, 20, impl.OK},
		{swaying(40, 1, 0, 1), 2, 40, impl.OK},
		{nil, 0, 0, impl.ErrInvalid},
		{nil, 2001, 0, impl.ErrInvalid},
		{tides(0, 7, 5, 7), 8, 0, impl.ErrInvalid},
		{swaying(41, 1, 0, 1), -2001, 0, impl.ErrInvalid},
	}
	for _, c := range cases {
		if got, code := impl.MinutesBelow(c.list, c.level); got != c.want || code != c.code {
			t.Errorf("MinutesBelow(%v, %d) = %d, %d", c.list, c.level, got, code)
		}
	}
}

func TestNextBelow(t *testing.T) {
	example := tides(0, 0, 10, 100, 20, 0)
	cases := []struct {
		list                      []impl.Tide
		level, minute, want, code int64
	}{
		{example, 50, 0, 0, impl.OK},
		{example, 50, 4, 4, impl.OK},
		{example, 50, 5, 16, impl.OK},
		{example, 50, 7, 16, impl.OK},
		{example, 50, 15, 16, impl.OK},
		{example, 50, 16, 16, impl.OK},
		{example, 50, 17, 17, impl.OK},
		{example, 50, 20, 20, impl.OK},
		{example, 50, 21, 0, impl.ErrRange},
		{example, 50, -1, 0, impl.ErrRange},
		{example, 0, 0, 0, impl.ErrNotFound},
		{example, 0, 7, 0, impl.ErrNotFound},
		{example, 0, 21, 0, impl.ErrRange},
		{example, 100, 10, 11, impl.OK},
		{example, 101, 10, 10, impl.OK},
		{example, 2000, 7, 7, impl.OK},
		{example, 2001, 7, 0, impl.ErrRange},
		{example, -2000, 7, 0, impl.ErrNotFound},
		{example, -2001, 7, 0, impl.ErrRange},
		{example, 50, math.MaxInt64, 0, impl.ErrRange},
		{example, math.MinInt64, 0, 0, impl.ErrRange},
		{tides(0, 100, 10, 0, 20, 100), 50, 14, 14, impl.OK},
		{tides(0, 100, 10, 0, 20, 100), 50, 15, 0, impl.ErrNotFound},
		{tides(0, 100, 10, 0, 20, 100), 50, 0, 6, impl.OK},
		{tides(5, 0, 10, 100), 1, 5, 5, impl.OK},
		{tides(5, 0, 10, 100), 1, 6, 0, impl.ErrNotFound},
		{tides(5, 0, 10, 100), 1, 4, 0, impl.ErrRange},
		{tides(0, -2000, 99999, 2000, 100000, -2000), -1999, 25, 100000, impl.OK},
		{tides(0, -2000, 99999, 2000, 100000, -2000), 2000, 99999, 100000, impl.OK},
		{nil, 0, 0, 0, impl.ErrInvalid},
		{nil, 2001, -1, 0, impl.ErrInvalid},
		{tides(0, 7, 5, 7), 8, 6, 0, impl.ErrInvalid},
		{swaying(41, 1, 0, 1), 0, 0, 0, impl.ErrInvalid},
	}
	for _, c := range cases {
		if got, code := impl.NextBelow(c.list, c.level, c.minute); got != c.want || code != c.code {
			t.Errorf("NextBelow(%v, %d, %d) = %d, %d", c.list, c.level, c.minute, got, code)
		}
	}
}

func TestMeanTide(t *testing.T) {
	cases := []struct {
		list     []impl.Tide
		num, den int64
		code     int64
	}{
		{tides(0, 0, 10, 100, 20, 0), 50, 1, impl.OK},
		{tides(0, 0, 10, 100), 50, 1, impl.OK},
		{tides(0, 0, 1, 1), 1, 2, impl.OK},
		{tides(0, 0, 1, -1), -1, 2, impl.OK},
		{tides(7, 5, 9, -5), 0, 1, impl.OK},
		{tides(0, 0, 1, 10, 4, 0), 5, 1, impl.OK},
		{tides(0, 0, 1, 10, 4, 4), 13, 2, impl.OK},
		{tides(0, 0, 1, 10, 3, 5), 20, 3, impl.OK},
		{tides(50, 0, 51, -10, 53, -5), -20, 3, impl.OK},
		{tides(0, 1999, 100000, 2000), 3999, 2, impl.OK},
		{tides(0, -2000, 99999, -1999, 100000, -2000), -3999, 2, impl.OK},
		{tides(0, -2000, 1, 2000, 100000, -2000), 0, 1, impl.OK},
		{tides(0, -2000, 99999, 2000, 100000, 1999), 3999, 200000, impl.OK},
		{swaying(40, 2564, 2000, -2000), 0, 1, impl.OK},
		{nil, 0, 0, impl.ErrInvalid},
		{tides(0, 0), 0, 0, impl.ErrInvalid},
		{tides(0, 7, 5, 7), 0, 0, impl.ErrInvalid},
		{swaying(41, 1, 0, 1), 0, 0, impl.ErrInvalid},
	}
	for _, c := range cases {
		if got, code := impl.MeanTide(c.list); got != (impl.Fraction{Num: c.num, Den: c.den}) || code != c.code {
			t.Errorf("MeanTide(%v) = %v, %d", c.list, got, code)
		}
	}
}

// TestMeanTides adds up the means of all single minutes, over which the level changes evenly as well.
func TestMeanTides(t *testing.T) {
	for _, list := range shortTables() {
		sum := new(big.Rat)
		for minute := firstMinute(list); minute < lastMinute(list); minute++ {
			sum.Add(sum, big.NewRat(tideBy(list, minute)))
			sum.Add(sum, big.NewRat(tideBy(list, minute+1)))
		}
		mean := sum.Quo(sum, big.NewRat(2*(lastMinute(list)-firstMinute(list)), 1))
		want := impl.Fraction{Num: mean.Num().Int64(), Den: mean.Denom().Int64()}
		if got, code := impl.MeanTide(list); got != want || code != impl.OK {
			t.Fatalf("MeanTide(%v) = %v, %d, not %v", list, got, code, want)
		}
	}
}

func TestShiftTides(t *testing.T) {
	example := tides(0, 0, 10, 100, 20, 0)
	cases := []struct {
		list           []impl.Tide
		minutes, level int64
		want           []impl.Tide
		code           int64
	}{
		{example, 5, 10, tides(5, 10, 15, 110, 25, 10), impl.OK},
		{example, 0, 0, example, impl.OK},
		{example, 0, -100, tides(0, -100, 10, 0, 20, -100), impl.OK},
		{example, -1, 0, nil, impl.ErrFull},
		{example, 99980, 0, tides(99980, 0, 99990, 100, 100000, 0), impl.OK},
		{example, 99981, 0, nil, impl.ErrFull},
		{example, 100000, 0, nil, impl.ErrFull},
		{example, 100001, 0, nil, impl.ErrRange},
		{example, -100000, 0, nil, impl.ErrFull},
		{example, -100001, 0, nil, impl.ErrRange},
		{example, 0, 1900, tides(0, 1900, 10, 2000, 20, 1900), impl.OK},
		{example, 0, 1901, nil, impl.ErrFull},
		{example, 0, 4000, nil, impl.ErrFull},
		{example, 0, 4001, nil, impl.ErrRange},
		{example, 0, -2000, tides(0, -2000, 10, -1900, 20, -2000), impl.OK},
		{example, 0, -2001, nil, impl.ErrFull},
		{example, 0, -4000, nil, impl.ErrFull},
		{example, 0, -4001, nil, impl.ErrRange},
		{example, -1, 4001, nil, impl.ErrRange},
		{example, math.MaxInt64, 0, nil, impl.ErrRange},
		{example, 0, math.MinInt64, nil, impl.ErrRange},
		{tides(99999, 2000, 100000, 1999), -99999, -3999, tides(0, -1999, 1, -2000), impl.OK},
		{tides(99999, 2000, 100000, 1999), -100000, 0, nil, impl.ErrFull},
		{tides(99999, 2000, 100000, 1999), 0, -4000, nil, impl.ErrFull},
		{tides(0, -2000, 1, -1999), 99999, 3999, tides(99999, 1999, 100000, 2000), impl.OK},
		{tides(0, -2000, 1, -1999), 100000, 0, nil, impl.ErrFull},
		{tides(0, -2000, 1, -1999), 0, 4000, nil, impl.ErrFull},
		{tides(0, -2000, 100000, 2000), 0, 0, tides(0, -2000, 100000, 2000), impl.OK},
		{tides(0, -2000, 100000, 2000), 0, 1, nil, impl.ErrFull},
		{tides(0, -2000, 100000, 2000), 1, 0, nil, impl.ErrFull},
		{nil, 0, 0, nil, impl.ErrInvalid},
		{nil, 100001, 4001, nil, impl.ErrInvalid},
		{tides(-1, 0, 5, 5), 1, 0, nil, impl.ErrInvalid},
		{tides(0, 2001, 5, 5), 0, -1, nil, impl.ErrInvalid},
		{swaying(41, 1, 0, 1), 0, 0, nil, impl.ErrInvalid},
	}
	for _, c := range cases {
		if got, code := impl.ShiftTides(c.list, c.minutes, c.level); !slices.Equal(got, c.want) || code != c.code {
			t.Errorf("ShiftTides(%v, %d, %d) = %v, %d", c.list, c.minutes, c.level, got, code)
		}
	}
}

// TestShiftedTides shifts many tables just to the limits, and one beyond them.
func TestShiftedTides(t *testing.T) {
	for _, list := range allTables() {
		low, high := list[0].Level, list[0].Level
		for _, tide := range list {
			low, high = min(low, tide.Level), max(high, tide.Level)
		}
		for _, minutes := range []int64{0, 1, -1, -firstMinute(list), -firstMinute(list) - 1, 100000 - lastMinute(list), 100001 - lastMinute(list)} {
			for _, level := range []int64{0, 1, -1, -2000 - low, -2001 - low, 2000 - high, 2001 - high} {
				if minutes > 100000 || minutes < -100000 || level > 4000 || level < -4000 {
					continue
				}
				want := slices.Clone(list)
				for k := range want {
					want[k] = impl.Tide{Minute: list[k].Minute + minutes, Level: list[k].Level + level}
				}
				wantCode := int64(impl.OK)
				if firstMinute(want) < 0 || lastMinute(want) > 100000 || low+level < -2000 || high+level > 2000 {
					want, wantCode = nil, impl.ErrFull
				}
				if got, code := impl.ShiftTides(list, minutes, level); !slices.Equal(got, want) || code != wantCode {
					t.Fatalf("ShiftTides(%v, %d, %d) = %v, %d, not %v, %d", list, minutes, level, got, code, want, wantCode)
				}
			}
		}
	}
}

func TestCutTides(t *testing.T) {
	example := tides(0, 0, 10, 100, 20, 0)
	slow := tides(0, 0, 10, 1, 20, 0)
	cases := []struct {
		list     []impl.Tide
		from, to int64
		want     []impl.Tide
		code     int64
	}{
		{example, 5, 20, tides(5, 50, 10, 100, 20, 0), impl.OK},
		{example, 0, 20, example, impl.OK},
		{example, 0, 10, tides(0, 0, 10, 100), impl.OK},
		{example, 10, 20, tides(10, 100, 20, 0), impl.OK},
		{example, 10, 11, tides(10, 100, 11, 90), impl.OK},
		{example, 9, 10, tides(9, 90, 10, 100), impl.OK},
		{example, 9, 11, tides(9, 90, 10, 100, 11, 90), impl.OK},
		{example, 1, 2, tides(1, 10, 2, 20), impl.OK},
		{example, 5, 5, nil, impl.ErrRange},
		{example, 6, 5, nil, impl.ErrRange},
		{example, 5, 21, nil, impl.ErrRange},
		{example, -1, 20, nil, impl.ErrRange},
		{example, -1, 21, nil, impl.ErrRange},
		{example, 20, 20, nil, impl.ErrRange},
		{example, 20, 21, nil, impl.ErrRange},
		{example, math.MinInt64, math.MaxInt64, nil, impl.ErrRange},
		{tides(5, 0, 9, 8), 4, 9, nil, impl.ErrRange},
		{tides(5, 0, 9, 8), 5, 9, tides(5, 0, 9, 8), impl.OK},
		{slow, 0, 5, tides(0, 0, 5, 1), impl.OK},
		{slow, 0, 4, nil, impl.ErrState},
		{slow, 4, 5, tides(4, 0, 5, 1), impl.OK},
		{slow, 5, 6, nil, impl.ErrState},
		{slow, 4, 20, tides(4, 0, 10, 1, 20, 0), impl.OK},
		{slow, 5, 20, nil, impl.ErrState},
		{slow, 0, 15, nil, impl.ErrState},
		{slow, 0, 16, tides(0, 0, 10, 1, 16, 0), impl.OK},
		{tides(0, 0, 10, -1), 0, 5, nil, impl.ErrState},
		{tides(0, 0, 10, -1), 0, 6, tides(0, 0, 6, -1), impl.OK},
		{tides(0, 0, 2, 1), 0, 1, tides(0, 0, 1, 1), impl.OK},
		{tides(0, 0, 2, 1), 1, 2, nil, impl.ErrState},
		{tides(0, -1, 2, 0), 0, 1, tides(0, -1, 1, 0), impl.OK},
		{tides(0, 0, 2, -1), 0, 1, nil, impl.ErrState},
		{tides(0, 0, 2, -1), 1, 2, tides(1, 0, 2, -1), impl.OK},
		{tides(0, -2000, 100000, 2000), 0, 100000, tides(0, -2000, 100000, 2000), impl.OK},
		{tides(0, -2000, 100000, 2000), 11, 12, nil, impl.ErrState},
		{tides(0, -2000, 100000, 2000), 12, 13, tides(12, -2000, 13, -1999), impl.OK},
		{tides(0, -2000, 100000, 2000), 12, 38, tides(12, -2000, 38, -1998), impl.OK},
		{tides(0, -2000, 100000, 2000), 99999, 100000, nil, impl.ErrState},
		{tides(0, -2000, 100000, 2000), 99988, 100000, nil, impl.ErrState},
		{tides(0, -2000, 100000, 2000), 99987, 100000, tides(99987, 1999, 100000, 2000), impl.OK},
		{tides(0, -2000, 100000, 2000), 0, 100001, nil, impl.ErrRange},
		{swaying(40, 2, -5, 5), 0, 78, swaying(40, 2, -5, 5), impl.OK},
		{nil, 0, 1, nil, impl.ErrInvalid},
		{nil, 1, 0, nil, impl.ErrInvalid},
		{tides(0, 7, 5, 7), 0, 5, nil, impl.ErrInvalid},
		{swaying(41, 1, 0, 1), 0, 5, nil, impl.ErrInvalid},
	}
	for _, c := range cases {
		if got, code := impl.CutTides(c.list, c.from, c.to); !slices.Equal(got, c.want) || code != c.code {
			t.Errorf("CutTides(%v, %d, %d) = %v, %d", c.list, c.from, c.to, got, code)
		}
	}
}

// nearestTo is the nearest integer by the definition: the greatest one that is not greater than num / den + 1/2.
func nearestTo(num, den int64) int64 {
	nearest := int64(-2001)
	for 2*(nearest+1)*den <= 2*num+den {
		nearest++
	}
	return nearest
}

// cutBy cuts a table by the definition; what comes out need not be one.
func cutBy(list []impl.Tide, from, to int64) []impl.Tide {
	cut := []impl.Tide{{Minute: from, Level: nearestTo(tideBy(list, from))}}
	for _, tide := range list {
		if tide.Minute > from && tide.Minute < to {
			cut = append(cut, tide)
		}
	}
	return append(cut, impl.Tide{Minute: to, Level: nearestTo(tideBy(list, to))})
}

// TestCutTables cuts many tables at many minutes, always at elements and next to them.
func TestCutTables(t *testing.T) {
	for _, list := range slices.Concat(limitTables(), smallTables(), randomTables(7, 4, 2)[:20], randomTables(8, 500, 9)[:10]) {
		minutes := minutesAround(list)
		for i, from := range minutes {
			for _, to := range minutes[i+1:] {
				want, wantCode := cutBy(list, from, to), int64(impl.OK)
				if !inTurn(want) {
					want, wantCode = nil, impl.ErrState
				}
				if got, code := impl.CutTides(list, from, to); !slices.Equal(got, want) || code != wantCode {
					t.Fatalf("CutTides(%v, %d, %d) = %v, %d, not %v, %d", list, from, to, got, code, want, wantCode)
				}
			}
			for _, to := range []int64{firstMinute(list) - 1, from - 1, from, lastMinute(list) + 1} {
				if got, code := impl.CutTides(list, from, to); len(got) != 0 || code != impl.ErrRange {
					t.Fatalf("CutTides(%v, %d, %d) = %v, %d", list, from, to, got, code)
				}
			}
		}
		if got, code := impl.CutTides(list, firstMinute(list), lastMinute(list)); !slices.Equal(got, list) || code != impl.OK {
			t.Fatalf("the whole of %v is %v, %d", list, got, code)
		}
	}
}

// tidesText writes a table by the definition of its text.
func tidesText(list []impl.Tide) string {
	var words []string
	for _, tide := range list {
		words = append(words, fmt.Sprintf("%d:%d", tide.Minute, tide.Level))
	}
	return strings.Join(words, " ")
}

// textOfValidTides writes a table by the definition of its text, if it is one.
func textOfValidTides(list []impl.Tide) string {
	if !impl.ValidTides(list) {
		return "no table"
	}
	return tidesText(list)
}

func isZeroTides(list []impl.Tide) bool { return len(list) == 0 }

func TestTidesAreReadBack(t *testing.T) {
	for _, list := range allTables() {
		text := tidesText(list)
		if got := impl.TidesText(list); got != text {
			t.Errorf("TidesText(%v) = %q, not %q", list, got, text)
		}
		if got, ok := impl.ReadTides(text); !slices.Equal(got, list) || !ok {
			t.Errorf("ReadTides(%q) = %v, %v", text, got, ok)
		}
	}
	if got := impl.TidesText(tides(0, 0, 10, 100, 20, -7)); got != "0:0 10:100 20:-7" {
		t.Errorf("the text is %q", got)
	}
	for _, list := range badTables() {
		if got := impl.TidesText(list); got != "" {
			t.Errorf("TidesText(%v) = %q", list, got)
		}
	}
}

func TestNoTextsOfTides(t *testing.T) {
	no := []string{
		"0:0", "0:0 ", "0:0 10", "0:0 10:", "0:0 :100", "0:0 10:100 ", " 0:0 10:100", "0:0  10:100", "0:0 10:100\n", "0:0\t10:100", "0:0\n10:100", "0:0,10:100", "0:010:100",
		"0:0 10:100:20", "0::0 10:100", "0 :0 10:100", "0: 0 10:100", "0=0 10=100", "0@0 10@100", "0-0 10-100", "00:0 10:100", "0:00 10:100", "0:0 010:100", "0:0 10:0100",
		"-0:0 10:100", "0:-0 10:100", "0:+0 10:100", "+0:0 10:100", "0:0 +10:100", "0:0 10:+100", "-1:0 10:100", "0:0 100001:100", "0:0 10:2001", "0:0 10:-2001", "0:0 10:0",
		"0:0 0:100", "10:0 0:100", "0:0 10:100 20:100", "0:0 10:100 20:200", "0:0 10:100 x", "x 0:0 10:100", "0:x 10:100", "x:0 10:100", "0:- 10:100", "-:0 10:100", ":", ": :", ":0 10:100",
		"0: 10:100", "0:0 1e1:100", "0:0 10:1e2", "0:0 10:100.0", "0:0 10:100m", "0:0 10:\uff11", "\uff10:0 10:100", "0:0\u00a010:100", "0:0 10:9223372036854775808",
		"0:0 18446744073709551626:100", "0:0 10:18446744073709551716", "0:0 10:100 \xff", tidesText(swaying(41, 1, 0, 1)), tidesText(swaying(5000, 1, 0, 1)),
		tidesText(swaying(40, 1, 0, 1)) + " ", tidesText(swaying(40, 1, 0, 1)) + " x", strings.Repeat(":", 5000), "0:0 10:" + strings.Repeat("9", 5000), "0:0 " + strings.Repeat("0", 5000) + "10:100",
		"0:0 10:100" + strings.Repeat(" ", 5000),
	}
	checkNotRead(t, no, impl.ReadTides, isZeroTides)
}

func TestReadTidesOnChanges(t *testing.T) {
	texts := []string{"0:0 10:100 20:0", "0:0 1:1", "0:2000 100000:-2000", "9:-10 99:-100 999:1000"}
	checkReader(t, texts, impl.ReadTides, textOfValidTides, isZeroTides)
}

// tidesCalls are all functions of chapter 8 with a table that return a code, with their results as texts,
// and the code at the end.
func tidesCalls(list []impl.Tide, a, b int64) map[string]string {
	return map[string]string{
		"TideAt":       fmt.Sprint(impl.TideAt(list, a)),
		"HighWaters":   fmt.Sprint(impl.HighWaters(list)),
		"RangesOf":     fmt.Sprint(impl.RangesOf(list)),
		"SpellsBelow":  fmt.Sprint(impl.SpellsBelow(list, a)),
		"MinutesBelow": fmt.Sprint(impl.MinutesBelow(list, a)),
		"NextBelow":    fmt.Sprint(impl.NextBelow(list, a, b)),
		"MeanTide":     fmt.Sprint(impl.MeanTide(list)),
		"ShiftTides":   fmt.Sprint(impl.ShiftTides(list, a, b)),
		"CutTides":     fmt.Sprint(impl.CutTides(list, a, b)),
	}
}

// noTidesResults are the zero values of the results of tidesCalls.
var noTidesResults = map[string]string{
	"TideAt": "{0 0}", "HighWaters": "[]", "RangesOf": "[]", "SpellsBelow": "[]", "MinutesBelow": "0", "NextBelow": "0", "MeanTide": "{0 0}", "ShiftTides": "[]", "CutTides": "[]",
}

var tidesNumbers = append([]int64{-2001, -2000, 2000, 2001, 5, 15, -4001, -4000, 4000, 4001, 99999, 100000, 100001, -100000, -100001}, extremes...)

// TestInvalidTides has ErrInvalid come before all other errors.
func TestInvalidTides(t *testing.T) {
	for _, list := range badTables() {
		for _, a := range tidesNumbers {
			for _, b := range []int64{a, a - 1, 0, 5, -100001, 100001, math.MaxInt64} {
				for name, got := range tidesCalls(list, a, b) {
					if got != noTidesResults[name]+" 1" {
						t.Fatalf("%s(%v) with %d and %d: %s", name, list, a, b, got)
					}
				}
			}
		}
	}
}

// TestTidesNumbersByRange has ErrRange come for all numbers that are told to give it, and for no others.
func TestTidesNumbersByRange(t *testing.T) {
	isLevel := func(n int64) bool { return n >= -2000 && n <= 2000 }
	for _, list := range limitTables() {
		isMinute := func(n int64) bool { return n >= firstMinute(list) && n <= lastMinute(list) }
		for _, a := range slices.Concat(tidesNumbers, minutesAround(list)) {
			for _, b := range []int64{a, a + 1, 0, 5, 4000, -4000, 4001, -4001, firstMinute(list) - 1, firstMinute(list), lastMinute(list), lastMinute(list) + 1} {
				inRange := map[string]bool{
					"TideAt": isMinute(a), "HighWaters": true, "RangesOf": true, "SpellsBelow": isLevel(a), "MinutesBelow": isLevel(a), "NextBelow": isLevel(a) && isMinute(b), "MeanTide": true,
					"ShiftTides": a >= -100000 && a <= 100000 && b >= -4000 && b <= 4000, "CutTides": a < b && isMinute(a) && isMinute(b),
				}
				for name, got := range tidesCalls(list, a, b) {
					if strings.HasSuffix(got, " 2") == inRange[name] {
						t.Fatalf("%s(%v) with %d and %d: %s", name, list, a, b, got)
					}
				}
			}
		}
	}
}

// markTide fills the unused capacity of a table, where a write would show.
var markTide = impl.Tide{Minute: spareMark, Level: -spareMark}

// TestTidesFunctionsArePure is promise 1 for all functions of chapter 8 with a table: they return, change
// nothing, and give the same once more; with an error, everything else is zero.
func TestTidesFunctionsArePure(t *testing.T) {
	for _, list := range slices.Concat(badTables(), limitTables(), randomTables(9, 5, 9)) {
		with, unchanged := guarded(t, list, markTide)
		for _, a := range tidesNumbers {
			for _, b := range []int64{a, 0, 5, 15, 20, 4000} {
				first := tidesCalls(with, a, b)
				if again := tidesCalls(slices.Clone(list), a, b); !maps.Equal(first, again) {
					t.Fatalf("%v, %d, %d: %v is followed by %v", list, a, b, first, again)
				}
				for name, got := range first {
					checkZero(t, name, got, noTidesResults[name])
				}
			}
		}
		if impl.TidesText(with) != impl.TidesText(slices.Clone(list)) || !impl.SameTides(with, list) || impl.ValidTides(with) != impl.ValidTides(slices.Clone(list)) {
			t.Fatalf("%v differs from itself", list)
		}
		unchanged()
	}
	for _, text := range append([]string{"0:0 10:100 20:0", "0:0 10:2001"}, oddTexts...) {
		first, ok := impl.ReadTides(text)
		if again, okAgain := impl.ReadTides(strings.Clone(text)); !slices.Equal(first, again) || ok != okAgain {
			t.Errorf("ReadTides of %q differs", text)
		}
	}
}

// TestTidesAreNew is promise 1 as well: no result shares memory with an argument or with another one.
func TestTidesAreNew(t *testing.T) {
	for _, list := range append(limitTables(), randomTables(10, 5, 9)...) {
		with, unchanged := guarded(t, list, markTide)
		checkFresh(t, func() []int64 { high, _ := impl.HighWaters(with); return high }, -spareMark, unchanged)
		checkFresh(t, func() []int64 { ranges, _ := impl.RangesOf(with); return ranges }, -spareMark, unchanged)
		for _, level := range tideLevels(list) {
			checkFresh(t, func() []impl.Spell { spells, _ := impl.SpellsBelow(with, level); return spells }, impl.Spell{From: spareMark}, unchanged)
		}
		checkFresh(t, func() []impl.Tide { shifted, _ := impl.ShiftTides(with, 0, 0); return shifted }, markTide, unchanged)
		checkFresh(t, func() []impl.Tide { cut, _ := impl.CutTides(with, firstMinute(list), lastMinute(list)); return cut }, markTide, unchanged)
		for _, minute := range minutesAround(list) {
			checkFresh(t, func() []impl.Tide { cut, _ := impl.CutTides(with, minute, lastMinute(list)); return cut }, markTide, unchanged)
		}
		text := tidesText(list)
		checkFresh(t, func() []impl.Tide { read, _ := impl.ReadTides(text); return read }, markTide, unchanged)
	}
}
