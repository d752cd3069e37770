package tests

import (
	"fmt"
	"maps"
	"math"
	"math/rand"
	"slices"
	"strings"
	"testing"

	"loop.example/g01032/impl"
)

// dike returns sections, each of them told by its length and its crest.
func dike(numbers ...int64) []impl.Section {
	var list []impl.Section
	for pair := range slices.Chunk(numbers, 2) {
		list = append(list, impl.Section{Length: pair[0], Crest: pair[1]})
	}
	return list
}

// evenDike returns many sections with the same length and the same crest.
func evenDike(many int, length, crest int64) []impl.Section {
	return slices.Repeat([]impl.Section{{Length: length, Crest: crest}}, many)
}

// smallDikes are all dikes of 1 to 3 sections with some short lengths and some crests.
func smallDikes() [][]impl.Section {
	var sections []impl.Section
	for _, length := range []int64{1, 2, 5} {
		for _, crest := range []int64{-1, 0, 2} {
			sections = append(sections, impl.Section{Length: length, Crest: crest})
		}
	}
	dikes := [][]impl.Section{nil}
	for first, many := 0, 1; many <= 3; many++ {
		longest := dikes[first:]
		first = len(dikes)
		for _, list := range longest {
			for _, s := range sections {
				dikes = append(dikes, slices.Concat(list, []impl.Section{s}))
			}
		}
	}
	return dikes[1:]
}

// randomDikes returns dikes of 1 to 30 sections, always the same ones, with lengths up to one, and with crests
// from a level on, of which there are some.
func randomDikes(seed, length, level, crests int64) [][]impl.Section {
	source := rand.New(rand.NewSource(seed))
	var dikes [][]impl.Section
	for many := 1; many <= 30; many++ {
		list := make([]impl.Section, many)
		for k := range list {
			list[k] = impl.Section{Length: 1 + source.Int63n(length), Crest: level + source.Int63n(crests)}
		}
		dikes = append(dikes, list)
	}
	return dikes
}

// limitDikes are dikes that reach a limit, with few and with many sections.
func limitDikes() [][]impl.Section {
	return [][]impl.Section{
		dike(1, 0), dike(1, -2000), dike(1, 2000), dike(10000, 0), dike(10000, -2000), dike(10000, 2000), dike(1, -2000, 10000, 2000), dike(10000, 2000, 1, -2000),
		dike(100, 400, 50, 350), dike(9999, 7, 1, 7), dike(10000, 7, 1, 7), dike(5000, 7, 5000, 7, 1, 7), dike(6000, 7, 5000, 7, 5000, 7),
		dike(1, 1999, 1, 2000), dike(25, 0, 25, 0, 25, 1), evenDike(29, 1, 0), evenDike(30, 1, 0), evenDike(30, 10000, -2000), evenDike(30, 10000, 2000),
		evenDike(30, 9999, 5), evenDike(30, 5000, -5), evenDike(30, 3333, 1), append(evenDike(29, 10000, 2000), impl.Section{Length: 1, Crest: -2000}),
		append(dike(1, -2000), evenDike(29, 10000, 1999)...),
	}
}

func allDikes() [][]impl.Section {
	return slices.Concat(limitDikes(), smallDikes(), randomDikes(1, 4, -3, 6), randomDikes(2, 300, 300, 200), randomDikes(3, 10000, -2000, 4001), randomDikes(4, 6000, 0, 2))
}

// badDikes are sections that are no dike.
func badDikes() [][]impl.Section {
	dikes := [][]impl.Section{
		nil, {}, dike(0, 0), dike(-1, 0), dike(10001, 0), dike(1, -2001), dike(1, 2001), dike(0, 2001), dike(10001, -2001), {{}},
		dike(0, 5, 10, 5), dike(10, 5, 0, 5), dike(10, 5, 10, 2001), dike(10, 2001, 10, 5), dike(10, 5, 0, 5, 10, 5), dike(10, 5, 10, -2001, 10, 5),
		dike(10001, 5, -1, 5), dike(-5, 5, 10, 5), dike(math.MaxInt64, 0, math.MaxInt64, 0, 12, 0), dike(math.MinInt64, 0, math.MinInt64, 0, 10, 0),
		evenDike(31, 1, 0), evenDike(31, 10000, 2000), evenDike(10000, 1, 0), evenDike(30, 0, 0), append(evenDike(29, 10, 0), impl.Section{Length: 10001}),
		append(evenDike(29, 10, 0), impl.Section{}), append(evenDike(29, 10, 0), impl.Section{Length: 10, Crest: 2001}),
	}
	for _, n := range extremes {
		if n < -1 || n > 1 {
			dikes = append(dikes, dike(n, 0), dike(10, n), dike(10, 0, n, 0), dike(n, n))
		}
	}
	return dikes
}

// lengthBy is the length of a dike by the definition.
func lengthBy(list []impl.Section) int64 {
	length := int64(0)
	for _, s := range list {
		length += s.Length
	}
	return length
}

// sectionsByMetre tells of each metre of a dike with which section it belongs.
func sectionsByMetre(list []impl.Section) []int {
	var metres []int
	for k, s := range list {
		for range s.Length {
			metres = append(metres, k)
		}
	}
	return metres
}

// metresAround are metres of a dike: all of a short one, and those next to the ends of sections.
func metresAround(list []impl.Section) []int64 {
	var metres []int64
	for metre := range min(lengthBy(list), 100) {
		metres = append(metres, metre)
	}
	end := int64(0)
	for _, s := range list {
		metres = append(metres, end+s.Length/2)
		end += s.Length
		metres = append(metres, end-2, end-1, end, end+1)
	}
	return slices.DeleteFunc(metres, func(metre int64) bool { return metre < 0 || metre >= end })
}

// crestsAround are levels: the crests of a dike, those next to them, and the limits.
func crestsAround(list []impl.Section) []int64 {
	levels := []int64{-2000, -1999, 0, 1999, 2000}
	for _, s := range list {
		levels = append(levels, s.Crest-1, s.Crest, s.Crest+1)
	}
	slices.Sort(levels)
	return slices.DeleteFunc(slices.Compact(levels), func(level int64) bool { return level < -2000 || level > 2000 })
}

// lowestCrest is the least crest of a dike, with the index of the first section that has it.
func lowestCrest(list []impl.Section) (int64, int64) {
	for crest := int64(-2000); ; crest++ {
		for k, s := range list {
			if s.Crest == crest {
				return crest, int64(k)
			}
		}
	}
}

// clayFor is the clay by the definition: 8 for each metre of length and each metre of height, a hundredth
// of it for each centimetre, and all of this rounded up.
func clayFor(list []impl.Section, norm int64) int64 {
	hundredths := int64(0)
	for _, s := range list {
		if s.Crest < norm {
			hundredths += 8 * s.Length * (norm - s.Crest)
		}
	}
	clay := hundredths / 100
	if 100*clay < hundredths {
		clay++
	}
	return clay
}

func TestValidDike(t *testing.T) {
	if impl.MaxSections != 30 {
		t.Error("the limit is wrong")
	}
	checkValidity(t, impl.ValidDike, allDikes(), badDikes())
	for many := range 35 {
		if got := impl.ValidDike(evenDike(many, 10, 5)); got != (many >= 1 && many <= 30) {
			t.Errorf("%d sections: %v", many, got)
		}
	}
}

// TestValidDikeBySection puts numbers around the limits at each section.
func TestValidDikeBySection(t *testing.T) {
	for _, many := range []int{1, 2, 3, 30} {
		for k := range many {
			for _, n := range append([]int64{-2001, -2000, -1, 0, 1, 2000, 2001, 9999, 10000, 10001}, extremes...) {
				length, crest := evenDike(many, 10, 5), evenDike(many, 10, 5)
				length[k].Length, crest[k].Crest = n, n
				if got := impl.ValidDike(length); got != (n >= 1 && n <= 10000) {
					t.Errorf("ValidDike with the length %d at %d of %d = %v", n, k, many, got)
				}
				if got := impl.ValidDike(crest); got != (n >= -2000 && n <= 2000) {
					t.Errorf("ValidDike with the crest %d at %d of %d = %v", n, k, many, got)
				}
			}
		}
	}
}

func TestSameDike(t *testing.T) {
	different := [][]impl.Section{
		nil, dike(100, 400), dike(100, 401), dike(101, 400), dike(400, 100), dike(100, 400, 50, 350), dike(50, 350, 100, 400), dike(100, 400, 50, 351),
		dike(100, 400, 100, 400), dike(0, 0), dike(0, 0, 0, 0), dike(math.MaxInt64, 0), dike(0, math.MinInt64), evenDike(30, 1, 0), evenDike(31, 1, 0),
	}
	checkDiffer(t, different, slices.Clone[[]impl.Section], impl.SameDike)
	if !impl.SameDike(nil, []impl.Section{}) || !impl.SameDike([]impl.Section{}, nil) {
		t.Error("nil and empty lists are told to differ")
	}
}

func TestLengthOfDike(t *testing.T) {
	cases := []struct {
		list       []impl.Section
		want, code int64
	}{
		{dike(100, 400, 50, 350), 150, impl.OK},
		{dike(1, 0), 1, impl.OK},
		{dike(10000, 0), 10000, impl.OK},
		{evenDike(30, 1, 0), 30, impl.OK},
		{evenDike(30, 10000, 2000), 300000, impl.OK},
		{evenDike(31, 10000, 2000), 0, impl.ErrInvalid},
		{dike(10001, 0), 0, impl.ErrInvalid},
		{dike(10, 0, 0, 0), 0, impl.ErrInvalid},
		{nil, 0, impl.ErrInvalid},
		{[]impl.Section{}, 0, impl.ErrInvalid},
	}
	for _, c := range cases {
		if got, code := impl.LengthOfDike(c.list); got != c.want || code != c.code {
			t.Errorf("LengthOfDike(%v) = %d, %d", c.list, got, code)
		}
	}
	for _, list := range allDikes() {
		if got, code := impl.LengthOfDike(list); got != lengthBy(list) || code != impl.OK {
			t.Errorf("LengthOfDike(%v) = %d, %d", list, got, code)
		}
	}
}

func TestSectionAt(t *testing.T) {
	example, single, full := dike(100, 400, 50, 350), dike(1, 0), evenDike(30, 10000, 5)
	cases := []struct {
		list              []impl.Section
		metre, want, code int64
	}{
		{example, 0, 0, impl.OK},
		{example, 98, 0, impl.OK},
		{example, 99, 0, impl.OK},
		{example, 100, 1, impl.OK},
		{example, 101, 1, impl.OK},
		{example, 148, 1, impl.OK},
		{example, 149, 1, impl.OK},
		{example, 150, 0, impl.ErrRange},
		{example, 151, 0, impl.ErrRange},
		{example, -1, 0, impl.ErrRange},
		{example, math.MinInt64, 0, impl.ErrRange},
		{example, math.MaxInt64, 0, impl.ErrRange},
		{single, 0, 0, impl.OK},
		{single, 1, 0, impl.ErrRange},
		{dike(1, 0, 1, 0, 1, 0), 1, 1, impl.OK},
		{dike(1, 0, 1, 0, 1, 0), 2, 2, impl.OK},
		{dike(1, 0, 1, 0, 1, 0), 3, 0, impl.ErrRange},
		{full, 9999, 0, impl.OK},
		{full, 10000, 1, impl.OK},
		{full, 289999, 28, impl.OK},
		{full, 290000, 29, impl.OK},
		{full, 299999, 29, impl.OK},
		{full, 300000, 0, impl.ErrRange},
		{nil, 0, 0, impl.ErrInvalid},
		{[]impl.Section{}, -1, 0, impl.ErrInvalid},
		{dike(0, 0, 10, 0), 5, 0, impl.ErrInvalid},
		{dike(10, 0, 10, 2001), 5, 0, impl.ErrInvalid},
	}
	for _, c := range cases {
		if got, code := impl.SectionAt(c.list, c.metre); got != c.want || code != c.code {
			t.Errorf("SectionAt(%v, %d) = %d, %d", c.list, c.metre, got, code)
		}
	}
}

// TestSectionsByMetre goes along many dikes, and holds each metre against the definition.
func TestSectionsByMetre(t *testing.T) {
	for _, list := range allDikes() {
		metres := sectionsByMetre(list)
		for _, metre := range metresAround(list) {
			if got, code := impl.SectionAt(list, metre); got != int64(metres[metre]) || code != impl.OK {
				t.Fatalf("SectionAt(%v, %d) = %d, %d, not %d", list, metre, got, code, metres[metre])
			}
		}
		for _, metre := range []int64{-2, -1, lengthBy(list), lengthBy(list) + 1} {
			if got, code := impl.SectionAt(list, metre); got != 0 || code != impl.ErrRange {
				t.Fatalf("SectionAt(%v, %d) = %d, %d", list, metre, got, code)
			}
		}
	}
}

func TestWeakestSection(t *testing.T) {
	cases := []struct {
		list       []impl.Section
		want, code int64
	}{
		{dike(100, 400, 50, 350), 1, impl.OK},
		{dike(50, 350, 100, 400), 0, impl.OK},
		{dike(50, 350, 100, 350), 0, impl.OK},
		{dike(1, 5, 1, 4, 1, 5, 1, 4), 1, impl.OK},
		{dike(1, -5, 1, 4, 1, -6, 1, -6), 2, impl.OK},
		{dike(1, 0), 0, impl.OK},
		{evenDike(30, 10000, 2000), 0, impl.OK},
		{append(evenDike(29, 10000, 2000), impl.Section{Length: 1, Crest: 1999}), 29, impl.OK},
		{nil, 0, impl.ErrInvalid},
		{evenDike(31, 1, 0), 0, impl.ErrInvalid},
		{dike(100, 400, 50, -2001), 0, impl.ErrInvalid},
		{dike(100, 400, 0, 350), 0, impl.ErrInvalid},
	}
	for _, c := range cases {
		if got, code := impl.WeakestSection(c.list); got != c.want || code != c.code {
			t.Errorf("WeakestSection(%v) = %d, %d", c.list, got, code)
		}
	}
}

func TestFreeboardOf(t *testing.T) {
	example := dike(100, 400, 50, 350)
	cases := []struct {
		list              []impl.Section
		level, want, code int64
	}{
		{example, 320, 30, impl.OK},
		{example, 349, 1, impl.OK},
		{example, 350, 0, impl.OK},
		{example, 351, 0, impl.ErrFlood},
		{example, 400, 0, impl.ErrFlood},
		{example, 2000, 0, impl.ErrFlood},
		{example, 2001, 0, impl.ErrRange},
		{example, -2000, 2350, impl.OK},
		{example, -2001, 0, impl.ErrRange},
		{example, math.MinInt64, 0, impl.ErrRange},
		{example, math.MaxInt64, 0, impl.ErrRange},
		{dike(1, 2000), -2000, 4000, impl.OK},
		{dike(1, 2000), 2000, 0, impl.OK},
		{dike(1, -2000), -2000, 0, impl.OK},
		{dike(1, -2000), -1999, 0, impl.ErrFlood},
		{nil, 0, 0, impl.ErrInvalid},
		{nil, 2001, 0, impl.ErrInvalid},
		{dike(1, -2001), 0, 0, impl.ErrInvalid},
	}
	for _, c := range cases {
		if got, code := impl.FreeboardOf(c.list, c.level); got != c.want || code != c.code {
			t.Errorf("FreeboardOf(%v, %d) = %d, %d", c.list, c.level, got, code)
		}
	}
}

// TestLowestCrests holds the weakest sections and the freeboards of many dikes against the definition.
func TestLowestCrests(t *testing.T) {
	for _, list := range allDikes() {
		crest, first := lowestCrest(list)
		if got, code := impl.WeakestSection(list); got != first || code != impl.OK {
			t.Fatalf("WeakestSection(%v) = %d, %d, not %d", list, got, code, first)
		}
		for _, level := range crestsAround(list) {
			want, wantCode := crest-level, int64(impl.OK)
			if level > crest {
				want, wantCode = 0, impl.ErrFlood
			}
			if got, code := impl.FreeboardOf(list, level); got != want || code != wantCode {
				t.Fatalf("FreeboardOf(%v, %d) = %d, %d, not %d, %d", list, level, got, code, want, wantCode)
			}
		}
	}
}

func TestWeakSections(t *testing.T) {
	example := dike(100, 400, 50, 350)
	cases := []struct {
		list         []impl.Section
		level, least int64
		want         []int64
		code         int64
	}{
		{example, 340, 50, []int64{1}, impl.OK},
		{example, 340, 10, nil, impl.OK},
		{example, 340, 11, []int64{1}, impl.OK},
		{example, 340, 60, []int64{1}, impl.OK},
		{example, 340, 61, []int64{0, 1}, impl.OK},
		{example, 350, 0, nil, impl.OK},
		{example, 351, 0, []int64{1}, impl.OK},
		{example, 400, 0, []int64{1}, impl.OK},
		{example, 401, 0, []int64{0, 1}, impl.OK},
		{example, 2000, 4000, []int64{0, 1}, impl.OK},
		{example, -2000, 0, nil, impl.OK},
		{example, -2000, 2350, nil, impl.OK},
		{example, -2000, 2351, []int64{1}, impl.OK},
		{example, -2000, 4000, []int64{0, 1}, impl.OK},
		{example, 340, -1, nil, impl.ErrRange},
		{example, 340, 4001, nil, impl.ErrRange},
		{example, -2001, 50, nil, impl.ErrRange},
		{example, 2001, 50, nil, impl.ErrRange},
		{example, math.MaxInt64, math.MaxInt64, nil, impl.ErrRange},
		{example, math.MinInt64, 0, nil, impl.ErrRange},
		{example, 0, math.MinInt64, nil, impl.ErrRange},
		{dike(1, 2000), -2000, 4000, nil, impl.OK},
		{dike(1, 1999), -2000, 4000, []int64{0}, impl.OK},
		{dike(1, 2000), -1999, 4000, []int64{0}, impl.OK},
		{dike(1, 2000), 2000, 0, nil, impl.OK},
		{dike(1, 2000), 2000, 1, []int64{0}, impl.OK},
		{dike(1, -2000), -2000, 0, nil, impl.OK},
		{evenDike(30, 1, 0), 1, 0, countingUp(0, 29), impl.OK},
		{nil, 0, 0, nil, impl.ErrInvalid},
		{nil, 2001, -1, nil, impl.ErrInvalid},
		{evenDike(31, 1, 0), 5, 5, nil, impl.ErrInvalid},
		{dike(0, 0), 0, 4001, nil, impl.ErrInvalid},
	}
	for _, c := range cases {
		if got, code := impl.WeakSections(c.list, c.level, c.least); !slices.Equal(got, c.want) || code != c.code {
			t.Errorf("WeakSections(%v, %d, %d) = %v, %d", c.list, c.level, c.least, got, code)
		}
	}
}

func TestOverflowLength(t *testing.T) {
	example := dike(100, 400, 50, 350)
	cases := []struct {
		list              []impl.Section
		level, want, code int64
	}{
		{example, 349, 0, impl.OK},
		{example, 350, 0, impl.OK},
		{example, 351, 50, impl.OK},
		{example, 400, 50, impl.OK},
		{example, 401, 150, impl.OK},
		{example, 2000, 150, impl.OK},
		{example, -2000, 0, impl.OK},
		{example, 2001, 0, impl.ErrRange},
		{example, -2001, 0, impl.ErrRange},
		{example, math.MaxInt64, 0, impl.ErrRange},
		{example, math.MinInt64, 0, impl.ErrRange},
		{dike(3, 5, 4, 6, 5, 5), 6, 8, impl.OK},
		{dike(1, 2000), 2000, 0, impl.OK},
		{dike(1, -2000), -2000, 0, impl.OK},
		{dike(1, -2000), -1999, 1, impl.OK},
		{evenDike(30, 10000, 1999), 2000, 300000, impl.OK},
		{nil, 0, 0, impl.ErrInvalid},
		{nil, -2001, 0, impl.ErrInvalid},
		{dike(10001, 0), 5, 0, impl.ErrInvalid},
	}
	for _, c := range cases {
		if got, code := impl.OverflowLength(c.list, c.level); got != c.want || code != c.code {
			t.Errorf("OverflowLength(%v, %d) = %d, %d", c.list, c.level, got, code)
		}
	}
}

// TestLowSections holds the weak and the overflowed sections of many dikes against the definitions.
func TestLowSections(t *testing.T) {
	for _, list := range allDikes() {
		for _, level := range crestsAround(list) {
			overflow := int64(0)
			for _, s := range list {
				if level > s.Crest {
					overflow += s.Length
				}
			}
			if got, code := impl.OverflowLength(list, level); got != overflow || code != impl.OK {
				t.Fatalf("OverflowLength(%v, %d) = %d, %d, not %d", list, level, got, code, overflow)
			}
			for _, least := range []int64{0, 1, 2, 3, 50, 3999, 4000} {
				var want []int64
				for k, s := range list {
					if s.Crest-level < least {
						want = append(want, int64(k))
					}
				}
				if got, code := impl.WeakSections(list, level, least); !slices.Equal(got, want) || code != impl.OK {
					t.Fatalf("WeakSections(%v, %d, %d) = %v, %d, not %v", list, level, least, got, code, want)
				}
			}
		}
	}
}

func TestRaiseDike(t *testing.T) {
	example := dike(100, 400, 50, 350)
	cases := []struct {
		list       []impl.Section
		norm       int64
		want       []impl.Section
		clay, code int64
	}{
		{example, 400, dike(100, 400, 50, 400), 200, impl.OK},
		{example, 401, dike(100, 401, 50, 401), 212, impl.OK},
		{example, 399, dike(100, 400, 50, 399), 196, impl.OK},
		{example, 351, dike(100, 400, 50, 351), 4, impl.OK},
		{example, 350, example, 0, impl.OK},
		{example, 349, example, 0, impl.OK},
		{example, -2000, example, 0, impl.OK},
		{example, 2000, dike(100, 2000, 50, 2000), 19400, impl.OK},
		{example, 2001, nil, 0, impl.ErrRange},
		{example, -2001, nil, 0, impl.ErrRange},
		{example, math.MaxInt64, nil, 0, impl.ErrRange},
		{example, math.MinInt64, nil, 0, impl.ErrRange},
		{dike(1, 0), 1, dike(1, 1), 1, impl.OK},
		{dike(1, 0), 12, dike(1, 12), 1, impl.OK},
		{dike(1, 0), 13, dike(1, 13), 2, impl.OK},
		{dike(1, 0), 25, dike(1, 25), 2, impl.OK},
		{dike(1, 0), 26, dike(1, 26), 3, impl.OK},
		{dike(12, 0), 1, dike(12, 1), 1, impl.OK},
		{dike(13, 0), 1, dike(13, 1), 2, impl.OK},
		{dike(25, -1), 0, dike(25, 0), 2, impl.OK},
		{dike(1, 0, 1, 0), 1, dike(1, 1, 1, 1), 1, impl.OK},
		{evenDike(12, 1, 0), 1, evenDike(12, 1, 1), 1, impl.OK},
		{evenDike(13, 1, 0), 1, evenDike(13, 1, 1), 2, impl.OK},
		{evenDike(25, 1, 0), 1, evenDike(25, 1, 1), 2, impl.OK},
		{evenDike(26, 1, 0), 1, evenDike(26, 1, 1), 3, impl.OK},
		{evenDike(30, 10000, -2000), 2000, evenDike(30, 10000, 2000), 96000000, impl.OK},
		{evenDike(30, 10000, 2000), 2000, evenDike(30, 10000, 2000), 0, impl.OK},
		{dike(3, 5, 4, 9, 5, 7), 8, dike(3, 8, 4, 9, 5, 8), 2, impl.OK},
		{nil, 0, nil, 0, impl.ErrInvalid},
		{nil, 2001, nil, 0, impl.ErrInvalid},
		{evenDike(31, 1, 0), 5, nil, 0, impl.ErrInvalid},
		{dike(0, 0), 5, nil, 0, impl.ErrInvalid},
	}
	for _, c := range cases {
		if got, clay, code := impl.RaiseDike(c.list, c.norm); !slices.Equal(got, c.want) || clay != c.clay || code != c.code {
			t.Errorf("RaiseDike(%v, %d) = %v, %d, %d", c.list, c.norm, got, clay, code)
		}
	}
}

// TestRaisedDikes holds raised dikes, and their clay, against the definition.
func TestRaisedDikes(t *testing.T) {
	for _, list := range allDikes() {
		for _, norm := range crestsAround(list) {
			want := slices.Clone(list)
			for k := range want {
				if want[k].Crest < norm {
					want[k].Crest = norm
				}
			}
			got, clay, code := impl.RaiseDike(list, norm)
			if !slices.Equal(got, want) || clay != clayFor(list, norm) || code != impl.OK {
				t.Fatalf("RaiseDike(%v, %d) = %v, %d, %d, not %v, %d", list, norm, got, clay, code, want, clayFor(list, norm))
			}
		}
	}
}

func TestBestNorm(t *testing.T) {
	example := dike(100, 400, 50, 350)
	cases := []struct {
		list             []impl.Section
		clay, want, code int64
	}{
		{example, 0, 350, impl.OK},
		{example, 3, 350, impl.OK},
		{example, 4, 351, impl.OK},
		{example, 199, 399, impl.OK},
		{example, 200, 400, impl.OK},
		{example, 211, 400, impl.OK},
		{example, 212, 401, impl.OK},
		{example, 223, 401, impl.OK},
		{example, 224, 402, impl.OK},
		{example, 19399, 1999, impl.OK},
		{example, 19400, 2000, impl.OK},
		{example, 19401, 2000, impl.OK},
		{example, 1000000000, 2000, impl.OK},
		{example, 1000000001, 0, impl.ErrRange},
		{example, -1, 0, impl.ErrRange},
		{example, math.MaxInt64, 0, impl.ErrRange},
		{example, math.MinInt64, 0, impl.ErrRange},
		{dike(1, 0), 0, 0, impl.OK},
		{dike(1, 0), 1, 12, impl.OK},
		{dike(1, 0), 2, 25, impl.OK},
		{dike(1, 0), 3, 37, impl.OK},
		{dike(12, 0), 1, 1, impl.OK},
		{dike(13, 0), 1, 0, impl.OK},
		{dike(13, 0), 2, 1, impl.OK},
		{dike(1, 2000), 0, 2000, impl.OK},
		{dike(1, 2000), 1000000000, 2000, impl.OK},
		{dike(1, 1999), 0, 1999, impl.OK},
		{dike(1, 1999), 1, 2000, impl.OK},
		{dike(1, -2000), 0, -2000, impl.OK},
		{dike(1, -2000), 319, 1987, impl.OK},
		{dike(1, -2000), 320, 2000, impl.OK},
		{dike(10000, 2000, 1, -2000), 0, -2000, impl.OK},
		{dike(10000, 2000, 1, -2000), 1, -1988, impl.OK},
		{evenDike(30, 10000, -2000), 23999, -2000, impl.OK},
		{evenDike(30, 10000, -2000), 24000, -1999, impl.OK},
		{evenDike(30, 10000, -2000), 95999999, 1999, impl.OK},
		{evenDike(30, 10000, -2000), 96000000, 2000, impl.OK},
		{nil, 0, 0, impl.ErrInvalid},
		{nil, -1, 0, impl.ErrInvalid},
		{[]impl.Section{}, 1000000001, 0, impl.ErrInvalid},
		{dike(1, -2001), 5, 0, impl.ErrInvalid},
		{evenDike(31, 1, 0), 5, 0, impl.ErrInvalid},
	}
	for _, c := range cases {
		if got, code := impl.BestNorm(c.list, c.clay); got != c.want || code != c.code {
			t.Errorf("BestNorm(%v, %d) = %d, %d, not %d, %d", c.list, c.clay, got, code, c.want, c.code)
		}
	}
}

// checkBest fails if a norm is not paid by the clay, or if one more is, or if it is less than the least crest.
func checkBest(t *testing.T, list []impl.Section, clay int64) {
	t.Helper()
	norm, code := impl.BestNorm(list, clay)
	lowest, _ := lowestCrest(list)
	if code != impl.OK || norm < lowest || norm > 2000 {
		t.Fatalf("BestNorm(%v, %d) = %d, %d", list, clay, norm, code)
	}
	if clayFor(list, norm) > clay || norm < 2000 && clayFor(list, norm+1) <= clay {
		t.Fatalf("BestNorm(%v, %d) = %d", list, clay, norm)
	}
	if _, paid, code := impl.RaiseDike(list, norm); paid > clay || code != impl.OK {
		t.Fatalf("BestNorm(%v, %d) = %d, which needs %d, %d", list, clay, norm, paid, code)
	}
	if norm == 2000 {
		return
	}
	if _, more, code := impl.RaiseDike(list, norm+1); more <= clay || code != impl.OK {
		t.Fatalf("BestNorm(%v, %d) = %d, but one more needs %d, %d", list, clay, norm, more, code)
	}
}

// TestBestNormIsPaid is promise 8: the best norm is paid by the clay, and one more is not.
func TestBestNormIsPaid(t *testing.T) {
	for _, list := range slices.Concat(smallDikes(), randomDikes(5, 3, -2, 4), randomDikes(6, 40, 1990, 11)) {
		for clay := range int64(40) {
			checkBest(t, list, clay)
		}
	}
	for _, list := range allDikes() {
		for _, norm := range crestsAround(list) {
			paid := clayFor(list, norm)
			for _, clay := range []int64{paid - 1, paid, paid + 1, paid + 7, 1000000000} {
				if clay >= 0 {
					checkBest(t, list, clay)
				}
			}
		}
	}
}

// TestBestNormsRise has just the clay for each norm, and one less.
func TestBestNormsRise(t *testing.T) {
	for _, list := range append(limitDikes(), randomDikes(7, 10000, -2000, 4001)...) {
		lowest, _ := lowestCrest(list)
		for norm := lowest; norm <= 2000; norm += 13 {
			paid := clayFor(list, norm)
			checkBest(t, list, paid)
			if norm > lowest {
				checkBest(t, list, paid-1)
			}
		}
	}
}

func TestCutDike(t *testing.T) {
	example := dike(100, 400, 50, 350)
	cases := []struct {
		list           []impl.Section
		metre          int64
		before, behind []impl.Section
		code           int64
	}{
		{example, 1, dike(1, 400), dike(99, 400, 50, 350), impl.OK},
		{example, 99, dike(99, 400), dike(1, 400, 50, 350), impl.OK},
		{example, 100, dike(100, 400), dike(50, 350), impl.OK},
		{example, 101, dike(100, 400, 1, 350), dike(49, 350), impl.OK},
		{example, 120, dike(100, 400, 20, 350), dike(30, 350), impl.OK},
		{example, 149, dike(100, 400, 49, 350), dike(1, 350), impl.OK},
		{example, 150, nil, nil, impl.ErrRange},
		{example, 151, nil, nil, impl.ErrRange},
		{example, 0, nil, nil, impl.ErrRange},
		{example, -1, nil, nil, impl.ErrRange},
		{example, math.MaxInt64, nil, nil, impl.ErrRange},
		{example, math.MinInt64, nil, nil, impl.ErrRange},
		{dike(1, 0), 0, nil, nil, impl.ErrRange},
		{dike(1, 0), 1, nil, nil, impl.ErrRange},
		{dike(2, 0), 1, dike(1, 0), dike(1, 0), impl.OK},
		{dike(2, 0), 2, nil, nil, impl.ErrRange},
		{dike(1, 0, 1, 0), 1, dike(1, 0), dike(1, 0), impl.OK},
		{dike(1, 5, 1, 6, 1, 7), 1, dike(1, 5), dike(1, 6, 1, 7), impl.OK},
		{dike(1, 5, 1, 6, 1, 7), 2, dike(1, 5, 1, 6), dike(1, 7), impl.OK},
		{dike(1, 5, 1, 6, 1, 7), 3, nil, nil, impl.ErrRange},
		{dike(2, 7, 2, 7, 2, 7), 3, dike(2, 7, 1, 7), dike(1, 7, 2, 7), impl.OK},
		{dike(2, 7, 2, 7, 2, 7), 4, dike(2, 7, 2, 7), dike(2, 7), impl.OK},
		{evenDike(30, 10000, 5), 290000, evenDike(29, 10000, 5), evenDike(1, 10000, 5), impl.OK},
		{evenDike(30, 10000, 5), 290001, append(evenDike(29, 10000, 5), dike(1, 5)...), dike(9999, 5), impl.OK},
		{evenDike(30, 10000, 5), 299999, append(evenDike(29, 10000, 5), dike(9999, 5)...), dike(1, 5), impl.OK},
		{evenDike(30, 10000, 5), 1, dike(1, 5), append(dike(9999, 5), evenDike(29, 10000, 5)...), impl.OK},
		{evenDike(30, 10000, 5), 10000, dike(10000, 5), evenDike(29, 10000, 5), impl.OK},
		{evenDike(30, 10000, 5), 300000, nil, nil, impl.ErrRange},
		{nil, 1, nil, nil, impl.ErrInvalid},
		{nil, 0, nil, nil, impl.ErrInvalid},
		{evenDike(31, 10, 5), 100, nil, nil, impl.ErrInvalid},
		{dike(10, 5, 0, 5, 10, 5), 10, nil, nil, impl.ErrInvalid},
	}
	for _, c := range cases {
		before, behind, code := impl.CutDike(c.list, c.metre)
		if !slices.Equal(before, c.before) || !slices.Equal(behind, c.behind) || code != c.code {
			t.Errorf("CutDike(%v, %d) = %v, %v, %d", c.list, c.metre, before, behind, code)
		}
	}
}

// partBy counts which metres of each section are in a part of a dike, from a metre to another one, without that one.
func partBy(list []impl.Section, from, to int64) []impl.Section {
	var part []impl.Section
	begin := int64(0)
	for _, s := range list {
		if common := min(to, begin+s.Length) - max(from, begin); common > 0 {
			part = append(part, impl.Section{Length: common, Crest: s.Crest})
		}
		begin += s.Length
	}
	return part
}

// TestCutDikes cuts many dikes at many metres, always at the ends of sections and next to them.
func TestCutDikes(t *testing.T) {
	for _, list := range allDikes() {
		length := lengthBy(list)
		for _, metre := range metresAround(list) {
			if metre == 0 {
				continue
			}
			before, behind, code := impl.CutDike(list, metre)
			if !slices.Equal(before, partBy(list, 0, metre)) || !slices.Equal(behind, partBy(list, metre, length)) || code != impl.OK {
				t.Fatalf("CutDike(%v, %d) = %v, %v, %d", list, metre, before, behind, code)
			}
			if !impl.ValidDike(before) || !impl.ValidDike(behind) || lengthBy(before) != metre || lengthBy(behind) != length-metre {
				t.Fatalf("CutDike(%v, %d) = %v, %v", list, metre, before, behind)
			}
		}
		for _, metre := range []int64{-1, 0, length, length + 1} {
			if before, behind, code := impl.CutDike(list, metre); len(before) != 0 || len(behind) != 0 || code != impl.ErrRange {
				t.Fatalf("CutDike(%v, %d) = %v, %v, %d", list, metre, before, behind, code)
			}
		}
	}
}

func TestJoinSections(t *testing.T) {
	cases := []struct {
		list, want []impl.Section
		code       int64
	}{
		{dike(100, 400, 50, 350), dike(100, 400, 50, 350), impl.OK},
		{dike(100, 400, 50, 400), dike(150, 400), impl.OK},
		{dike(100, 400, 50, 400, 25, 400), dike(175, 400), impl.OK},
		{dike(100, 400, 50, 350, 25, 400), dike(100, 400, 50, 350, 25, 400), impl.OK},
		{dike(100, 400, 50, 350, 25, 350), dike(100, 400, 75, 350), impl.OK},
		{dike(1, 0), dike(1, 0), impl.OK},
		{dike(10000, 0), dike(10000, 0), impl.OK},
		{dike(9999, 7, 1, 7), dike(10000, 7), impl.OK},
		{dike(9999, 7, 2, 7), dike(9999, 7, 2, 7), impl.OK},
		{dike(10000, 7, 1, 7), dike(10000, 7, 1, 7), impl.OK},
		{dike(10000, 7, 1, 7, 1, 7), dike(10000, 7, 2, 7), impl.OK},
		{dike(1, 7, 10000, 7, 1, 7), dike(1, 7, 10000, 7, 1, 7), impl.OK},
		{dike(5000, 7, 5000, 7, 1, 7), dike(10000, 7, 1, 7), impl.OK},
		{dike(5000, 7, 5001, 7, 4999, 7), dike(5000, 7, 10000, 7), impl.OK},
		{dike(5000, 7, 5001, 7, 5000, 7), dike(5000, 7, 5001, 7, 5000, 7), impl.OK},
		{dike(6000, 7, 5000, 7, 5000, 7), dike(6000, 7, 10000, 7), impl.OK},
		{dike(4000, 7, 4000, 7, 4000, 7, 4000, 7), dike(8000, 7, 8000, 7), impl.OK},
		{dike(4000, 7, 4000, 7, 2000, 8, 2000, 7), dike(8000, 7, 2000, 8, 2000, 7), impl.OK},
		{evenDike(30, 1, 0), dike(30, 0), impl.OK},
		{evenDike(30, 10000, 0), evenDike(30, 10000, 0), impl.OK},
		{evenDike(30, 5000, 0), evenDike(15, 10000, 0), impl.OK},
		{evenDike(30, 3333, 0), evenDike(10, 9999, 0), impl.OK},
		{nil, nil, impl.ErrInvalid},
		{[]impl.Section{}, nil, impl.ErrInvalid},
		{evenDike(31, 1, 0), nil, impl.ErrInvalid},
		{dike(10, 2001, 10, 2001), nil, impl.ErrInvalid},
		{dike(10, 0, 0, 0), nil, impl.ErrInvalid},
	}
	for _, c := range cases {
		if got, code := impl.JoinSections(c.list); !slices.Equal(got, c.want) || code != c.code {
			t.Errorf("JoinSections(%v) = %v, %d, not %v, %d", c.list, got, code, c.want, c.code)
		}
	}
}

// joinedBy joins by the definition: all sections but the last one first, and then this one.
func joinedBy(list []impl.Section) []impl.Section {
	if len(list) == 1 {
		return slices.Clone(list)
	}
	last := list[len(list)-1]
	joined := joinedBy(list[:len(list)-1])
	before := joined[len(joined)-1]
	if before.Crest != last.Crest || before.Length+last.Length > 10000 {
		return append(joined, last)
	}
	return append(joined[:len(joined)-1], impl.Section{Length: before.Length + last.Length, Crest: last.Crest})
}

// TestJoinedDikes holds joined dikes against the definition; they have the crest of the dike at each metre.
func TestJoinedDikes(t *testing.T) {
	for _, list := range allDikes() {
		joined, code := impl.JoinSections(list)
		if !slices.Equal(joined, joinedBy(list)) || !impl.ValidDike(joined) || lengthBy(joined) != lengthBy(list) || code != impl.OK {
			t.Fatalf("JoinSections(%v) = %v, %d, not %v", list, joined, code, joinedBy(list))
		}
		was, is := sectionsByMetre(list), sectionsByMetre(joined)
		for _, metre := range metresAround(list) {
			if list[was[metre]].Crest != joined[is[metre]].Crest {
				t.Fatalf("JoinSections(%v) = %v: wrong at %d", list, joined, metre)
			}
		}
	}
}

// dikesText writes a dike by the definition of its text.
func dikesText(list []impl.Section) string {
	var words []string
	for _, s := range list {
		words = append(words, fmt.Sprintf("%d@%d", s.Length, s.Crest))
	}
	return strings.Join(words, " ")
}

// textOfValidDike writes a dike by the definition of its text, if it is one.
func textOfValidDike(list []impl.Section) string {
	if !impl.ValidDike(list) {
		return "no dike"
	}
	return dikesText(list)
}

func isZeroDike(list []impl.Section) bool { return len(list) == 0 }

func TestDikesAreReadBack(t *testing.T) {
	for _, list := range allDikes() {
		text := dikesText(list)
		if got := impl.DikeText(list); got != text {
			t.Errorf("DikeText(%v) = %q, not %q", list, got, text)
		}
		if got, ok := impl.ReadDike(text); !slices.Equal(got, list) || !ok {
			t.Errorf("ReadDike(%q) = %v, %v", text, got, ok)
		}
	}
	if got := impl.DikeText(dike(100, 400, 50, -350)); got != "100@400 50@-350" {
		t.Errorf("the text is %q", got)
	}
	for _, list := range badDikes() {
		if got := impl.DikeText(list); got != "" {
			t.Errorf("DikeText(%v) = %q", list, got)
		}
	}
}

func TestNoTextsOfDikes(t *testing.T) {
	no := []string{
		"100", "100@", "@400", "@", "@@", "0@400", "-1@400", "-0@400", "10001@400", "100@2001", "100@-2001", "100@400  50@350", " 100@400", "100@400 ",
		"100@400\n", "100@400\t50@350", "100@400,50@350", "100@40050@350", "100@400@50", "100@@400", "100 @400", "100@ 400", "100:400", "100=400", "100-400",
		"0100@400", "100@0400", "100@-0", "100@+400", "+100@400", "100@-", "-@400", "x@400", "100@x", "100@400 x", "100@400 50", "100@400 50@", "100@400 @350",
		"100@400 0@350", "100@400 50@2001", "0@400 50@350", "100@4e2", "1e2@400", "100@400.0", "100.0@400", "100@400m", "100@\uff14", "\uff11@400", "100\u00a0@400",
		"100@400\u00a050@350", "100@9223372036854775808", "9223372036854775808@400", "18446744073709551617@400", "100@18446744073709551617", "100@400 \xff",
		dikesText(evenDike(31, 1, 0)), dikesText(evenDike(5000, 1, 0)), dikesText(evenDike(30, 1, 0)) + " ", dikesText(evenDike(30, 1, 0)) + " x",
		strings.Repeat("@", 5000), "100@" + strings.Repeat("9", 5000), strings.Repeat("0", 5000) + "@400", "100@400" + strings.Repeat(" ", 5000),
	}
	checkNotRead(t, no, impl.ReadDike, isZeroDike)
}

func TestReadDikeOnChanges(t *testing.T) {
	texts := []string{"100@400 50@350", "1@0", "10000@2000 1@-2000", "9999@-1 10@1999 1000@100"}
	checkReader(t, texts, impl.ReadDike, textOfValidDike, isZeroDike)
}

// dikeCalls are all functions of chapter 7 with a dike that return a code, with their results as texts,
// and the code at the end.
func dikeCalls(list []impl.Section, a, b int64) map[string]string {
	return map[string]string{
		"LengthOfDike":   fmt.Sprint(impl.LengthOfDike(list)),
		"SectionAt":      fmt.Sprint(impl.SectionAt(list, a)),
		"WeakestSection": fmt.Sprint(impl.WeakestSection(list)),
		"FreeboardOf":    fmt.Sprint(impl.FreeboardOf(list, a)),
		"WeakSections":   fmt.Sprint(impl.WeakSections(list, a, b)),
		"OverflowLength": fmt.Sprint(impl.OverflowLength(list, a)),
		"RaiseDike":      fmt.Sprint(impl.RaiseDike(list, a)),
		"BestNorm":       fmt.Sprint(impl.BestNorm(list, a)),
		"CutDike":        fmt.Sprint(impl.CutDike(list, a)),
		"JoinSections":   fmt.Sprint(impl.JoinSections(list)),
	}
}

// noDikeResults are the zero values of the results of dikeCalls.
var noDikeResults = map[string]string{
	"LengthOfDike": "0", "SectionAt": "0", "WeakestSection": "0", "FreeboardOf": "0", "WeakSections": "[]", "OverflowLength": "0",
	"RaiseDike": "[] 0", "BestNorm": "0", "CutDike": "[] []", "JoinSections": "[]",
}

var dikeNumbers = append([]int64{-2001, -2000, 2000, 2001, 5, 100, 4000, 4001, 299999, 300000, 1000000000, 1000000001}, extremes...)

// TestInvalidDikes has ErrInvalid come before all other errors.
func TestInvalidDikes(t *testing.T) {
	for _, list := range badDikes() {
		for _, a := range dikeNumbers {
			for _, b := range []int64{a, 0, 5, -1, 4001} {
				for name, got := range dikeCalls(list, a, b) {
					if got != noDikeResults[name]+" 1" {
						t.Fatalf("%s(%v) with %d and %d: %s", name, list, a, b, got)
					}
				}
			}
		}
	}
}

// markSection fills the unused capacity of a dike, where a write would show.
var markSection = impl.Section{Length: spareMark, Crest: -spareMark}

// TestDikeFunctionsArePure is promise 1 for all functions of chapter 7 with a dike: they return, change
// nothing, and give the same once more; with an error, everything else is zero.
func TestDikeFunctionsArePure(t *testing.T) {
	for _, list := range slices.Concat(badDikes(), limitDikes(), randomDikes(8, 5, -2, 5)) {
		with, unchanged := guarded(t, list, markSection)
		for _, a := range dikeNumbers {
			for _, b := range []int64{a, 0, 5, 4000, 4001} {
				first := dikeCalls(with, a, b)
				if again := dikeCalls(slices.Clone(list), a, b); !maps.Equal(first, again) {
					t.Fatalf("%v, %d, %d: %v is followed by %v", list, a, b, first, again)
				}
				for name, got := range first {
					checkZero(t, name, got, noDikeResults[name])
				}
			}
		}
		if impl.DikeText(with) != impl.DikeText(slices.Clone(list)) || !impl.SameDike(with, list) || impl.ValidDike(with) != impl.ValidDike(slices.Clone(list)) {
			t.Fatalf("%v differs from itself", list)
		}
		unchanged()
	}
	for _, text := range append([]string{"100@400 50@350", "100@2001"}, oddTexts...) {
		first, ok := impl.ReadDike(text)
		if again, okAgain := impl.ReadDike(strings.Clone(text)); !slices.Equal(first, again) || ok != okAgain {
			t.Errorf("ReadDike of %q differs", text)
		}
	}
}

// TestDikesAreNew is promise 1 as well: no result shares memory with an argument or with another one.
func TestDikesAreNew(t *testing.T) {
	for _, list := range append(limitDikes(), randomDikes(9, 5, -2, 5)...) {
		with, unchanged := guarded(t, list, markSection)
		for _, level := range crestsAround(list) {
			checkFresh(t, func() []impl.Section { raised, _, _ := impl.RaiseDike(with, level); return raised }, markSection, unchanged)
			checkFresh(t, func() []int64 { weak, _ := impl.WeakSections(with, level, 1); return weak }, -spareMark, unchanged)
		}
		checkFresh(t, func() []impl.Section { joined, _ := impl.JoinSections(with); return joined }, markSection, unchanged)
		text := dikesText(list)
		checkFresh(t, func() []impl.Section { read, _ := impl.ReadDike(text); return read }, markSection, unchanged)
		for _, metre := range metresAround(list) {
			checkFresh(t, func() []impl.Section { before, _, _ := impl.CutDike(with, metre); return before }, markSection, unchanged)
			checkFresh(t, func() []impl.Section { _, behind, _ := impl.CutDike(with, metre); return behind }, markSection, unchanged)
			checkNewParts(t, with, metre)
		}
	}
}

// checkNewParts overwrites each part of a cut dike with its whole capacity: the other one must not change with it.
func checkNewParts(t *testing.T, list []impl.Section, metre int64) {
	t.Helper()
	before, behind, _ := impl.CutDike(list, metre)
	want := slices.Clone(behind)
	overwriteWith(before, markSection)
	if !slices.Equal(behind, want) {
		t.Fatalf("CutDike(%v, %d): the part behind changes to %v", list, metre, behind)
	}
	before, behind, _ = impl.CutDike(list, metre)
	want = slices.Clone(before)
	overwriteWith(behind, markSection)
	if !slices.Equal(before, want) {
		t.Fatalf("CutDike(%v, %d): the part before changes to %v", list, metre, before)
	}
}
