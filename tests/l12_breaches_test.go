package tests

import (
	"fmt"
	"math"
	"math/rand"
	"slices"
	"strings"
	"testing"

	"loop.example/g01032/impl"
)

// bowl is the curve of the example: each centimetre has ten cubic metres.
func bowl() impl.Curve { return curve(-100, 0, 100, 2000) }

// deepBowl is a curve with all levels, where a centimetre has ten thousand cubic metres.
func deepBowl() impl.Curve { return curve(-2000, 0, 2000, 40000000) }

func lastVolume(c impl.Curve) int64 { return c.Volumes[len(c.Volumes)-1] }

// breachCurves are curves of all kinds: flat and steep ones, with few and with all levels.
func breachCurves() []impl.Curve {
	return slices.Concat([]impl.Curve{bowl(), deepBowl()}, limitCurves(), randomCurves(21, 1, 4, 3), randomCurves(22, 1, 20, 900), randomCurves(23, 1, 60, 2))
}

// breachesOf are valid breaches for a curve, with all their numbers at limits, and between them.
func breachesOf(c impl.Curve) []impl.Breach {
	low, high, last := lowestOf(c), highestOf(c), lastVolume(c)
	var breaches []impl.Breach
	for _, width := range []int64{0, 1, 7, 999, 1000} {
		for _, sill := range []int64{-2000, low, (low + high) / 2, high - 1, high, 2000} {
			for _, water := range []int64{0, 1, last / 3, last - 1, last} {
				breaches = append(breaches, impl.Breach{Width: width, Sill: sill, Water: water})
			}
		}
	}
	return breaches
}

// levelsFor are levels at the limits, and around the levels of a curve and of a breach.
func levelsFor(c impl.Curve, b impl.Breach) []int64 {
	inside := insideBy(c, b)
	var levels []int64
	for _, level := range []int64{-2000, 2000, lowestOf(c), highestOf(c), b.Sill, inside, (lowestOf(c) + highestOf(c)) / 2} {
		levels = append(levels, level-11, level-1, level, level+1, level+10)
	}
	slices.Sort(levels)
	return slices.DeleteFunc(slices.Compact(levels), func(level int64) bool { return level < -2000 || level > 2000 })
}

// badBreaches are breaches that are not valid for any curve.
func badBreaches() []impl.Breach {
	bad := []impl.Breach{
		{Width: -1}, {Width: 1001}, {Sill: -2001}, {Sill: 2001}, {Water: -1}, {Water: 1000000001}, {Width: 1001, Sill: 2001, Water: -1}, {Width: 1000, Sill: 2000, Water: 1000000001},
	}
	for _, n := range extremes {
		if n < -1 || n > 1 {
			bad = append(bad, impl.Breach{Width: n}, impl.Breach{Sill: n}, impl.Breach{Water: n}, impl.Breach{Width: n, Sill: n, Water: n})
		}
	}
	return bad
}

// insideBy is the level inside by the definition.
func insideBy(c impl.Curve, b impl.Breach) int64 { return levelWith(c, b.Water) }

// levelWith is the level of a volume that the curve has.
func levelWith(c impl.Curve, volume int64) int64 {
	level, code := impl.LevelAt(c, volume)
	if code != impl.OK {
		panic("water that is valid has no level")
	}
	return level
}

// headBy is the head by the definition.
func headBy(c impl.Curve, b impl.Breach, outside int64) int64 {
	head := min(outside-b.Sill, outside-insideBy(c, b))
	if head < 0 {
		return 0
	}
	return head
}

// inflowBy is the inflow by the definition.
func inflowBy(c impl.Curve, b impl.Breach, outside int64) int64 {
	head := headBy(c, b, outside)
	if head == 0 {
		return 0
	}
	full := lastVolume(c)
	if outside <= highestOf(c) {
		full = volumeOn(c, outside)
	}
	if inflow := 10 * b.Width * head; b.Water+inflow < full {
		return inflow
	}
	return full - b.Water
}

// hourBy is the breach after an hour by the definition, and how many metres are closed by stones in it.
func hourBy(c impl.Curve, b impl.Breach, outside, stones int64) (impl.Breach, int64) {
	head, after, closed := headBy(c, b, outside), b, int64(0)
	after.Water += inflowBy(c, b, outside)
	if b.Width != 0 {
		after.Width += head / 10
		if head%10 != 0 {
			after.Width++
		}
	}
	for ; closed < stones && after.Width > 0; closed++ {
		after.Width--
	}
	after.Width = min(after.Width, 1000)
	return after, closed
}

// followedBy are the breaches at the beginning and after each hour by the definition, and how many metres have been closed by
// stones until then.
func followedBy(c impl.Curve, b impl.Breach, outside, stones []int64) ([]impl.Breach, []int64) {
	states, sums := []impl.Breach{b}, []int64{0}
	for k := range outside {
		after, closed := hourBy(c, states[k], outside[k], stones[k])
		states, sums = append(states, after), append(sums, sums[k]+closed)
	}
	return states, sums
}

// staysBy tells by the definition whether the inside is at most a level, at the beginning and after all hours, with as many
// stones in each one.
func staysBy(c impl.Curve, b impl.Breach, outside []int64, stones, level int64) bool {
	states, _ := followedBy(c, b, outside, filled(len(outside), stones))
	return !slices.ContainsFunc(states, func(s impl.Breach) bool { return insideBy(c, s) > level })
}

// leastBy are the least stones by the definition, and the code.
func leastBy(c impl.Curve, b impl.Breach, outside []int64, level int64) (int64, int64) {
	for stones := range int64(1001) {
		if staysBy(c, b, outside, stones, level) {
			return stones, impl.OK
		}
	}
	return 0, impl.ErrFlood
}

func TestBreachConstants(t *testing.T) {
	if impl.MaxBreach != 1000 || impl.MaxSteps != 100 || impl.MaxStones != 1000 {
		t.Error("a limit is wrong")
	}
}

func TestValidBreach(t *testing.T) {
	for _, c := range breachCurves() {
		isValid := func(b impl.Breach) bool { return impl.ValidBreach(c, b) }
		last := lastVolume(c)
		bad := append(badBreaches(), impl.Breach{Water: last + 1}, impl.Breach{Width: 1000, Sill: 2000, Water: last + 1}, impl.Breach{Width: 5, Sill: -5, Water: last + 1000})
		checkValidity(t, isValid, append(breachesOf(c), impl.Breach{}), bad)
	}
	c := bowl()
	for _, n := range append([]int64{-2001, -2000, -1999, 999, 1000, 1001, 1999, 2000, 2001, 1000000000}, extremes...) {
		if got := impl.ValidBreach(c, impl.Breach{Width: n}); got != (n >= 0 && n <= 1000) {
			t.Errorf("the width %d: %v", n, got)
		}
		if got := impl.ValidBreach(c, impl.Breach{Width: 5, Sill: n}); got != (n >= -2000 && n <= 2000) {
			t.Errorf("the sill %d: %v", n, got)
		}
		if got := impl.ValidBreach(c, impl.Breach{Width: 5, Water: n}); got != (n >= 0 && n <= 2000) {
			t.Errorf("the water %d: %v", n, got)
		}
	}
	for _, c := range badCurves() {
		for _, b := range append(badBreaches(), impl.Breach{}, impl.Breach{Width: 10, Sill: -50}, impl.Breach{Water: 1}) {
			if impl.ValidBreach(c, b) {
				t.Errorf("%v is told to be valid for %v", b, c)
			}
		}
	}
}

func TestHeadOf(t *testing.T) {
	c, sill := bowl(), func(sill, water int64) impl.Breach { return impl.Breach{Width: 10, Sill: sill, Water: water} }
	cases := []struct {
		breach              impl.Breach
		outside, want, code int64
	}{
		{sill(-50, 0), 0, 50, impl.OK},
		{sill(-50, 0), -49, 1, impl.OK},
		{sill(-50, 0), -50, 0, impl.OK},
		{sill(-50, 0), -51, 0, impl.OK},
		{sill(-50, 0), -2000, 0, impl.OK},
		{sill(-50, 0), 2000, 2050, impl.OK},
		{sill(-50, 0), 2001, 0, impl.ErrRange},
		{sill(-50, 0), -2001, 0, impl.ErrRange},
		{sill(-50, 0), math.MaxInt64, 0, impl.ErrRange},
		{sill(-50, 0), math.MinInt64, 0, impl.ErrRange},
		{sill(-50, 500), 0, 50, impl.OK},
		{sill(-50, 501), 0, 49, impl.OK},
		{sill(-50, 510), 0, 49, impl.OK},
		{sill(-50, 511), 0, 48, impl.OK},
		{sill(-50, 600), 0, 40, impl.OK},
		{sill(-50, 600), -39, 1, impl.OK},
		{sill(-50, 600), -40, 0, impl.OK},
		{sill(-50, 601), -39, 0, impl.OK},
		{sill(-50, 600), -45, 0, impl.OK},
		{sill(-50, 2000), 100, 0, impl.OK},
		{sill(-50, 2000), 101, 1, impl.OK},
		{sill(-2000, 0), 2000, 2100, impl.OK},
		{sill(-2000, 0), -100, 0, impl.OK},
		{sill(-2000, 0), -99, 1, impl.OK},
		{sill(2000, 0), 2000, 0, impl.OK},
		{sill(1999, 0), 2000, 1, impl.OK},
		// A breach that is closed has a head, too.
		{impl.Breach{Sill: -50}, 0, 50, impl.OK},
		{impl.Breach{Width: -1}, 0, 0, impl.ErrInvalid},
		{impl.Breach{Width: -1}, 2001, 0, impl.ErrInvalid},
		{sill(-50, 2001), 0, 0, impl.ErrInvalid},
		{sill(-50, 2001), -2001, 0, impl.ErrInvalid},
	}
	for _, v := range cases {
		if got, code := impl.HeadOf(c, v.breach, v.outside); got != v.want || code != v.code {
			t.Errorf("HeadOf(%v, %d) = %d, %d", v.breach, v.outside, got, code)
		}
	}
	if got, code := impl.HeadOf(deepBowl(), impl.Breach{Sill: -2000}, 2000); got != 4000 || code != impl.OK {
		t.Errorf("the greatest head is %d, %d", got, code)
	}
	if got, code := impl.HeadOf(impl.Curve{}, impl.Breach{}, 2001); got != 0 || code != impl.ErrInvalid {
		t.Errorf("the head without a curve is %d, %d", got, code)
	}
}

func TestInflowOf(t *testing.T) {
	c, flat := bowl(), curve(0, 0, 10, 1)
	cases := []struct {
		curve               impl.Curve
		breach              impl.Breach
		outside, want, code int64
	}{
		{c, impl.Breach{Width: 10, Sill: -50}, 0, 1000, impl.OK},
		{c, impl.Breach{Width: 1, Sill: -50}, 0, 500, impl.OK},
		{c, impl.Breach{Width: 2, Sill: -50}, 0, 1000, impl.OK},
		{c, impl.Breach{Width: 3, Sill: -50}, 0, 1000, impl.OK},
		{c, impl.Breach{Width: 2, Sill: -50, Water: 1}, 0, 999, impl.OK},
		{c, impl.Breach{Width: 10, Sill: -50}, -49, 100, impl.OK},
		{c, impl.Breach{Width: 10, Sill: -50}, -50, 0, impl.OK},
		{c, impl.Breach{Width: 10, Sill: -50}, -51, 0, impl.OK},
		{c, impl.Breach{Width: 1000, Sill: -50}, -49, 510, impl.OK},
		// Water that stands higher inside does not run out.
		{c, impl.Breach{Width: 10, Sill: -50, Water: 1000}, -1, 0, impl.OK},
		{c, impl.Breach{Width: 10, Sill: -50, Water: 1000}, -100, 0, impl.OK},
		{c, impl.Breach{Width: 10, Sill: -50, Water: 1000}, -101, 0, impl.OK},
		{c, impl.Breach{Width: 10, Sill: -50, Water: 2000}, -2000, 0, impl.OK},
		{c, impl.Breach{Width: 10, Sill: -50, Water: 999}, 0, 0, impl.OK},
		{c, impl.Breach{Width: 10, Sill: -50, Water: 990}, 0, 10, impl.OK},
		// To the end of the curve, and not beyond it.
		{c, impl.Breach{Width: 10, Sill: -50}, 99, 1990, impl.OK},
		{c, impl.Breach{Width: 10, Sill: -50}, 100, 2000, impl.OK},
		{c, impl.Breach{Width: 10, Sill: -50}, 101, 2000, impl.OK},
		{c, impl.Breach{Width: 10, Sill: -50, Water: 700}, 2000, 1300, impl.OK},
		{c, impl.Breach{Width: 10, Sill: -50, Water: 2000}, 100, 0, impl.OK},
		{c, impl.Breach{Width: 10, Sill: -50, Water: 2000}, 2000, 0, impl.OK},
		{c, impl.Breach{Width: 1, Sill: 99}, 100, 10, impl.OK},
		{c, impl.Breach{Width: 1, Sill: 1999}, 2000, 10, impl.OK},
		{c, impl.Breach{Width: 10, Sill: -2000}, -100, 0, impl.OK},
		{c, impl.Breach{Width: 10, Sill: -2000}, -101, 0, impl.OK},
		{c, impl.Breach{Width: 10, Sill: -2000}, -2000, 0, impl.OK},
		{c, impl.Breach{Width: 10, Sill: -2000}, -99, 10, impl.OK},
		// What is closed lets nothing in.
		{c, impl.Breach{Sill: -50}, 0, 0, impl.OK},
		{c, impl.Breach{Sill: -2000}, 2000, 0, impl.OK},
		// With several levels of the same volume, the water may stand lower inside, and nothing is missing.
		{flat, impl.Breach{Width: 10, Sill: -5}, 9, 0, impl.OK},
		{flat, impl.Breach{Width: 10, Sill: -5}, 10, 1, impl.OK},
		{flat, impl.Breach{Width: 10, Sill: -5}, 11, 1, impl.OK},
		{deepBowl(), impl.Breach{Width: 1000, Sill: -2000}, 2000, 40000000, impl.OK},
		{deepBowl(), impl.Breach{Width: 999, Sill: -2000}, 2000, 39960000, impl.OK},
		{curve(-2000, 0, 2000, 1000000000), impl.Breach{Width: 1000, Sill: -2000}, 2000, 40000000, impl.OK},
		{c, impl.Breach{Width: 10, Sill: -50}, 2001, 0, impl.ErrRange},
		{c, impl.Breach{Width: 10, Sill: -50}, -2001, 0, impl.ErrRange},
		{c, impl.Breach{Width: 0, Sill: -50}, math.MaxInt64, 0, impl.ErrRange},
		{c, impl.Breach{Width: 1001}, 0, 0, impl.ErrInvalid},
		{c, impl.Breach{Water: 2001}, 2001, 0, impl.ErrInvalid},
		{impl.Curve{}, impl.Breach{}, 0, 0, impl.ErrInvalid},
	}
	for _, v := range cases {
		if got, code := impl.InflowOf(v.curve, v.breach, v.outside); got != v.want || code != v.code {
			t.Errorf("InflowOf(%v, %v, %d) = %d, %d", v.curve, v.breach, v.outside, got, code)
		}
	}
}

func TestStepBreach(t *testing.T) {
	state := func(width, water int64) impl.Breach { return impl.Breach{Width: width, Sill: -50, Water: water} }
	cases := []struct {
		breach          impl.Breach
		outside, stones int64
		want            impl.Breach
		code            int64
	}{
		{state(10, 0), 0, 3, state(12, 1000), impl.OK},
		{state(10, 0), 0, 0, state(15, 1000), impl.OK},
		{state(10, 0), 0, 14, state(1, 1000), impl.OK},
		{state(10, 0), 0, 15, state(0, 1000), impl.OK},
		{state(10, 0), 0, 16, state(0, 1000), impl.OK},
		{state(10, 0), 0, 1000, state(0, 1000), impl.OK},
		// It grows by what has come at the beginning of the hour, and is closed only then.
		{state(1, 0), 0, 1, state(5, 500), impl.OK},
		{state(1, 0), 0, 5, state(1, 500), impl.OK},
		{state(1, 0), 0, 6, state(0, 500), impl.OK},
		// A breach that is closed at once stays closed.
		{state(0, 0), 0, 0, state(0, 0), impl.OK},
		{state(0, 0), 0, 1000, state(0, 0), impl.OK},
		{state(0, 700), 2000, 1, state(0, 700), impl.OK},
		// Without a head, it does not grow, and nothing flows in or out.
		{state(10, 0), -50, 0, state(10, 0), impl.OK},
		{state(10, 0), -50, 3, state(7, 0), impl.OK},
		{state(10, 0), -2000, 10, state(0, 0), impl.OK},
		{state(10, 1000), 0, 0, state(10, 1000), impl.OK},
		{state(10, 1000), -1, 4, state(6, 1000), impl.OK},
		{state(10, 2000), -2000, 0, state(10, 2000), impl.OK},
		// A tenth of the head is rounded up.
		{state(10, 0), -49, 0, state(11, 100), impl.OK},
		{state(10, 0), -41, 0, state(11, 590), impl.OK},
		{state(10, 0), -40, 0, state(11, 600), impl.OK},
		{state(10, 0), -39, 0, state(12, 610), impl.OK},
		{state(10, 0), -30, 0, state(12, 700), impl.OK},
		{state(10, 0), -29, 0, state(13, 710), impl.OK},
		// It grows also where nothing more can flow in.
		{state(10, 2000), 2000, 0, state(200, 2000), impl.OK},
		{state(10, 2000), 101, 0, state(11, 2000), impl.OK},
		// At most 1000 metres, in the end.
		{state(1000, 0), 0, 0, state(1000, 1000), impl.OK},
		{state(1000, 0), 0, 4, state(1000, 1000), impl.OK},
		{state(1000, 0), 0, 5, state(1000, 1000), impl.OK},
		{state(1000, 0), 0, 6, state(999, 1000), impl.OK},
		{state(1000, 0), 0, 1000, state(5, 1000), impl.OK},
		{state(996, 0), 0, 0, state(1000, 1000), impl.OK},
		{state(995, 0), 0, 0, state(1000, 1000), impl.OK},
		{state(994, 0), 0, 0, state(999, 1000), impl.OK},
		{state(10, 0), 0, -1, impl.Breach{}, impl.ErrRange},
		{state(10, 0), 0, 1001, impl.Breach{}, impl.ErrRange},
		{state(10, 0), 2001, 0, impl.Breach{}, impl.ErrRange},
		{state(10, 0), -2001, 0, impl.Breach{}, impl.ErrRange},
		{state(0, 0), 0, 1001, impl.Breach{}, impl.ErrRange},
		{state(0, 0), 0, math.MinInt64, impl.Breach{}, impl.ErrRange},
		{state(-1, 0), 0, 0, impl.Breach{}, impl.ErrInvalid},
		{state(1001, 0), 2001, 1001, impl.Breach{}, impl.ErrInvalid},
		{state(10, 2001), 0, 0, impl.Breach{}, impl.ErrInvalid},
	}
	for _, v := range cases {
		if got, code := impl.StepBreach(bowl(), v.breach, v.outside, v.stones); got != v.want || code != v.code {
			t.Errorf("StepBreach(%v, %d, %d) = %v, %d", v.breach, v.outside, v.stones, got, code)
		}
	}
	for stones, want := range map[int64]int64{0: 1000, 399: 1000, 400: 1000, 401: 999, 999: 401, 1000: 400} {
		got, code := impl.StepBreach(deepBowl(), impl.Breach{Width: 1000, Sill: -2000}, 2000, stones)
		if got != (impl.Breach{Width: want, Sill: -2000, Water: 40000000}) || code != impl.OK {
			t.Errorf("the widest breach with %d stones becomes %v, %d", stones, got, code)
		}
	}
}

// checkHour fails if an hour has made water, or has let it rise above that outside; what comes after it must be valid.
func checkHour(t *testing.T, c impl.Curve, before, after impl.Breach, outside int64) {
	t.Helper()
	from, to := insideBy(c, before), insideBy(c, after)
	if to > max(from, outside) || to < from || after.Water < before.Water || outside <= from && after.Water != before.Water {
		t.Fatalf("%v: with %d outside, %v becomes %v", c, outside, before, after)
	}
	if !impl.ValidBreach(c, after) || after.Sill != before.Sill || before.Width == 0 && after != before {
		t.Fatalf("%v: with %d outside, %v becomes %v", c, outside, before, after)
	}
}

// TestHoursOfBreaches is promise 13 for single hours: all of them are as defined, and the water never stands higher than outside.
func TestHoursOfBreaches(t *testing.T) {
	for _, c := range breachCurves() {
		for k, b := range breachesOf(c) {
			for _, outside := range levelsFor(c, b) {
				head, code := impl.HeadOf(c, b, outside)
				if want := headBy(c, b, outside); head != want || code != impl.OK {
					t.Fatalf("HeadOf(%v, %v, %d) = %d, %d, not %d", c, b, outside, head, code, want)
				}
				inflow, code := impl.InflowOf(c, b, outside)
				if want := inflowBy(c, b, outside); inflow != want || code != impl.OK || inflow < 0 {
					t.Fatalf("InflowOf(%v, %v, %d) = %d, %d, not %d", c, b, outside, inflow, code, want)
				}
				for _, stones := range []int64{0, 1000, b.Width + (head+9)/10, int64(k * 7 % 1000)} {
					stones = min(stones, 1000)
					got, code := impl.StepBreach(c, b, outside, stones)
					if want, _ := hourBy(c, b, outside, stones); got != want || code != impl.OK {
						t.Fatalf("StepBreach(%v, %v, %d, %d) = %v, %d, not %v", c, b, outside, stones, got, code, want)
					}
					checkHour(t, c, b, got, outside)
				}
			}
		}
	}
}

func TestRunBreach(t *testing.T) {
	state := func(width, water int64) impl.Breach { return impl.Breach{Width: width, Sill: -50, Water: water} }
	cases := []struct {
		breach          impl.Breach
		outside, stones []int64
		want            []impl.Breach
		code            int64
	}{
		{state(10, 0), []int64{0, 0}, []int64{3, 20}, []impl.Breach{state(12, 1000), state(0, 1000)}, impl.OK},
		{state(10, 0), nil, nil, nil, impl.OK},
		{state(10, 0), []int64{}, nil, nil, impl.OK},
		{state(10, 0), nil, []int64{}, nil, impl.OK},
		{state(0, 0), nil, nil, nil, impl.OK},
		{state(10, 0), []int64{0}, []int64{3}, []impl.Breach{state(12, 1000)}, impl.OK},
		{state(1, 0), []int64{0, 0, 0}, []int64{0, 0, 0}, []impl.Breach{state(6, 500), state(11, 1000), state(11, 1000)}, impl.OK},
		{state(10, 0), []int64{0, 50, 100}, []int64{6, 6, 6}, []impl.Breach{state(9, 1000), state(8, 1500), state(7, 2000)}, impl.OK},
		// What has been closed stays closed, as high as the water may rise outside.
		{state(1, 0), []int64{0, 100, 2000}, []int64{6, 0, 0}, []impl.Breach{state(0, 500), state(0, 500), state(0, 500)}, impl.OK},
		{state(0, 0), []int64{0, 2000}, []int64{0, 7}, []impl.Breach{state(0, 0), state(0, 0)}, impl.OK},
		// What has come in stays in.
		{state(10, 0), []int64{0, -100, -2000, -10, 10}, []int64{5, 5, 1, 0, 0}, []impl.Breach{state(10, 1000), state(5, 1000), state(4, 1000), state(4, 1000), state(5, 1100)}, impl.OK},
		{state(10, 0), []int64{0, 0}, []int64{3}, nil, impl.ErrRange},
		{state(10, 0), []int64{0}, []int64{3, 20}, nil, impl.ErrRange},
		{state(10, 0), []int64{0}, nil, nil, impl.ErrRange},
		{state(10, 0), nil, []int64{0}, nil, impl.ErrRange},
		{state(10, 0), []int64{0, 2001}, []int64{0, 0}, nil, impl.ErrRange},
		{state(10, 0), []int64{-2001, 0}, []int64{0, 0}, nil, impl.ErrRange},
		{state(10, 0), []int64{0, 0}, []int64{0, 1001}, nil, impl.ErrRange},
		{state(10, 0), []int64{0, 0}, []int64{-1, 0}, nil, impl.ErrRange},
		{state(0, 0), []int64{0, 0}, []int64{0, -1}, nil, impl.ErrRange},
		{state(0, 0), filled(100, 0), filled(100, 1000), slices.Repeat([]impl.Breach{state(0, 0)}, 100), impl.OK},
		{state(0, 0), filled(101, 0), filled(101, 0), nil, impl.ErrRange},
		{state(0, 0), filled(100, 0), filled(101, 0), nil, impl.ErrRange},
		{state(0, 0), filled(101, 0), filled(100, 0), nil, impl.ErrRange},
		{state(1001, 0), []int64{2001}, nil, nil, impl.ErrInvalid},
		{state(10, 2001), nil, nil, nil, impl.ErrInvalid},
	}
	for _, v := range cases {
		if got, code := impl.RunBreach(bowl(), v.breach, v.outside, v.stones); !slices.Equal(got, v.want) || code != v.code {
			t.Errorf("RunBreach(%v, %v, %v) = %v, %d", v.breach, v.outside, v.stones, got, code)
		}
	}
	if got, code := impl.RunBreach(impl.Curve{}, impl.Breach{}, nil, nil); len(got) != 0 || code != impl.ErrInvalid {
		t.Errorf("a run without a curve is %v, %d", got, code)
	}
}

// randomRun returns a curve, a breach, and hours with levels outside around those of the curve.
func randomRun(source *rand.Rand, hours int, stones int64) breachArguments {
	low, height := source.Int63n(61)-40, 1+source.Int63n(120)
	c := curve(low, 0, low+height, 1+source.Int63n(200*height))
	if source.Intn(2) == 0 {
		c = curve(low, 0, low+height, 1+source.Int63n(40*height), low+height+1+source.Int63n(40), 40*height+1+source.Int63n(4000))
	}
	b := impl.Breach{Width: source.Int63n(12), Sill: low - 10 + source.Int63n(height+20)}
	if source.Intn(3) == 0 {
		b.Water = source.Int63n(lastVolume(c) + 1)
	}
	a := breachArguments{curve: c, breach: b, number: stones}
	for range hours {
		a.outside = append(a.outside, low-5+source.Int63n(highestOf(c)-low+15))
		a.stones = append(a.stones, source.Int63n(stones+1))
	}
	return a
}

// checkRuns holds a run against the definition; promise 13: the water never stands higher than outside, if it has not done so before.
func checkRuns(t *testing.T, a breachArguments) {
	t.Helper()
	got, code := impl.RunBreach(a.curve, a.breach, a.outside, a.stones)
	want, _ := followedBy(a.curve, a.breach, a.outside, a.stones)
	if !slices.Equal(got, want[1:]) || code != impl.OK {
		t.Fatalf("RunBreach of %v is %v, %d, not %v", a, got, code, want[1:])
	}
	before := a.breach
	for k, after := range got {
		checkHour(t, a.curve, before, after, a.outside[k])
		step, code := impl.StepBreach(a.curve, before, a.outside[k], a.stones[k])
		if step != after || code != impl.OK {
			t.Fatalf("the hour %d of %v is %v, %d, not %v", k, a, step, code, after)
		}
		before = after
	}
	if highest := slices.Max(append(slices.Clone(a.outside), insideBy(a.curve, a.breach))); insideBy(a.curve, before) > highest {
		t.Fatalf("%v ends with %v", a, before)
	}
}

// TestRunsOfBreaches is promise 13 for runs: few and many hours, with few and many stones.
func TestRunsOfBreaches(t *testing.T) {
	source := rand.New(rand.NewSource(31))
	for round := range 3000 {
		checkRuns(t, randomRun(source, round%8, []int64{0, 2, 9, 1000}[round%4]))
	}
	for _, hours := range []int{99, 100} {
		for range 20 {
			checkRuns(t, randomRun(source, hours, 3))
			checkRuns(t, randomRun(source, hours, 15))
		}
	}
	for _, c := range breachCurves() {
		for k, b := range breachesOf(c) {
			outside := levelsFor(c, b)
			source.Shuffle(len(outside), func(i, j int) { outside[i], outside[j] = outside[j], outside[i] })
			checkRuns(t, breachArguments{curve: c, breach: b, outside: outside, stones: filled(len(outside), int64(k%4*20))})
		}
	}
}

func TestHoursToLevel(t *testing.T) {
	open, shut := impl.Breach{Width: 1, Sill: -50}, impl.Breach{Sill: -50}
	full := impl.Breach{Width: 1, Sill: -50, Water: 2000}
	cases := []struct {
		breach            impl.Breach
		outside           []int64
		level, want, code int64
	}{
		{open, filled(3, 0), -101, 0, impl.OK},
		{open, filled(3, 0), -100, 0, impl.OK},
		{open, filled(3, 0), -99, 1, impl.OK},
		{open, filled(3, 0), -50, 1, impl.OK},
		{open, filled(3, 0), -49, 2, impl.OK},
		{open, filled(3, 0), 0, 2, impl.OK},
		{open, filled(3, 0), 1, 0, impl.ErrNotFound},
		{open, filled(3, 0), 2000, 0, impl.ErrNotFound},
		{open, filled(3, 0), -2000, 0, impl.OK},
		{open, filled(2, 0), 0, 2, impl.OK},
		{open, filled(1, 0), 0, 0, impl.ErrNotFound},
		{open, filled(1, 0), -50, 1, impl.OK},
		{open, nil, -99, 0, impl.ErrNotFound},
		{open, nil, -100, 0, impl.OK},
		{open, []int64{}, -100, 0, impl.OK},
		{open, []int64{-50, -2000, 0, -2000, 0}, -50, 3, impl.OK},
		{open, []int64{-50, -2000, 0, -2000, 0}, -49, 5, impl.OK},
		{open, []int64{2000}, 100, 1, impl.OK},
		{open, []int64{2000}, 101, 0, impl.ErrNotFound},
		{open, append(filled(99, -50), 0), -50, 100, impl.OK},
		{open, append(filled(99, -50), 0), -49, 0, impl.ErrNotFound},
		{shut, filled(3, 0), -100, 0, impl.OK},
		{shut, filled(3, 2000), -99, 0, impl.ErrNotFound},
		{full, nil, 100, 0, impl.OK},
		{full, filled(100, 2000), 100, 0, impl.OK},
		{full, filled(100, 2000), 101, 0, impl.ErrNotFound},
		{open, filled(100, 0), 0, 2, impl.OK},
		{open, filled(101, 0), 0, 0, impl.ErrRange},
		{open, filled(101, 0), -100, 0, impl.ErrRange},
		{open, filled(3, 0), 2001, 0, impl.ErrRange},
		{open, filled(3, 0), -2001, 0, impl.ErrRange},
		{open, []int64{0, 0, 2001}, -100, 0, impl.ErrRange},
		{open, []int64{-2001, 0}, 0, 0, impl.ErrRange},
		{impl.Breach{Width: 1001}, filled(101, 0), 2001, 0, impl.ErrInvalid},
		{impl.Breach{Water: 2001}, nil, 0, 0, impl.ErrInvalid},
	}
	for _, v := range cases {
		if got, code := impl.HoursToLevel(bowl(), v.breach, v.outside, v.level); got != v.want || code != v.code {
			t.Errorf("HoursToLevel(%v, %v, %d) = %d, %d", v.breach, v.outside, v.level, got, code)
		}
	}
}

func TestHoursToClose(t *testing.T) {
	open, shut := impl.Breach{Width: 10, Sill: -50}, impl.Breach{Sill: -50}
	cases := []struct {
		breach             impl.Breach
		outside            []int64
		stones, want, used int64
		code               int64
	}{
		{open, filled(2, 0), 20, 1, 15, impl.OK},
		{open, filled(2, 0), 1000, 1, 15, impl.OK},
		{open, filled(2, 0), 16, 1, 15, impl.OK},
		{open, filled(2, 0), 15, 1, 15, impl.OK},
		{open, filled(2, 0), 14, 2, 15, impl.OK},
		{open, filled(2, 0), 8, 2, 15, impl.OK},
		{open, filled(2, 0), 7, 0, 0, impl.ErrNotFound},
		{open, filled(1, 0), 14, 0, 0, impl.ErrNotFound},
		{open, filled(1, 0), 15, 1, 15, impl.OK},
		{open, filled(15, 0), 1, 15, 15, impl.OK},
		{open, filled(14, 0), 1, 0, 0, impl.ErrNotFound},
		{open, filled(100, 0), 1, 15, 15, impl.OK},
		{open, filled(100, 0), 0, 0, 0, impl.ErrNotFound},
		{open, filled(100, -50), 0, 0, 0, impl.ErrNotFound},
		{open, filled(100, -50), 1, 10, 10, impl.OK},
		{impl.Breach{Width: 100, Sill: -50}, filled(100, -50), 1, 100, 100, impl.OK},
		{impl.Breach{Width: 101, Sill: -50}, filled(100, -50), 1, 0, 0, impl.ErrNotFound},
		{impl.Breach{Width: 101, Sill: -50}, filled(100, -50), 2, 51, 101, impl.OK},
		{open, nil, 1000, 0, 0, impl.ErrNotFound},
		{open, []int64{0, 50, 100, 0, 0}, 6, 5, 25, impl.OK},
		{open, []int64{0, 50, 100, 0}, 6, 0, 0, impl.ErrNotFound},
		{open, []int64{0, 50, 100, 0}, 7, 4, 25, impl.OK},
		{open, []int64{0, 50, 100, 0}, 0, 0, 0, impl.ErrNotFound},
		// A breach that is closed at once needs neither hours nor stones.
		{shut, nil, 0, 0, 0, impl.OK},
		{shut, []int64{}, 1000, 0, 0, impl.OK},
		{shut, filled(100, 2000), 0, 0, 0, impl.OK},
		{shut, filled(100, 2000), 5, 0, 0, impl.OK},
		{impl.Breach{Sill: -50, Water: 2000}, filled(1, 0), 5, 0, 0, impl.OK},
		{shut, nil, -1, 0, 0, impl.ErrRange},
		{shut, nil, 1001, 0, 0, impl.ErrRange},
		{shut, filled(101, 0), 5, 0, 0, impl.ErrRange},
		{shut, []int64{2001}, 5, 0, 0, impl.ErrRange},
		{open, filled(2, 0), -1, 0, 0, impl.ErrRange},
		{open, filled(2, 0), 1001, 0, 0, impl.ErrRange},
		{open, filled(101, 0), 20, 0, 0, impl.ErrRange},
		{open, []int64{0, 0, -2001}, 20, 0, 0, impl.ErrRange},
		{impl.Breach{Width: -1}, nil, 5, 0, 0, impl.ErrInvalid},
		{impl.Breach{Water: 2001}, filled(101, 0), 1001, 0, 0, impl.ErrInvalid},
		{impl.Breach{Sill: 2001}, []int64{2001}, 5, 0, 0, impl.ErrInvalid},
	}
	for _, v := range cases {
		if got, code := impl.HoursToClose(bowl(), v.breach, v.outside, v.stones); got != v.want || code != v.code {
			t.Errorf("HoursToClose(%v, %v, %d) = %d, %d", v.breach, v.outside, v.stones, got, code)
		}
		if got, code := impl.StonesNeeded(bowl(), v.breach, v.outside, v.stones); got != v.used || code != v.code {
			t.Errorf("StonesNeeded(%v, %v, %d) = %d, %d", v.breach, v.outside, v.stones, got, code)
		}
	}
}

// TestStonesOfTheWidestBreach has the breach grow beyond what it can: what is cut off then is not closed by stones.
func TestStonesOfTheWidestBreach(t *testing.T) {
	wide, outside := impl.Breach{Width: 1000, Sill: -2000}, append([]int64{2000}, filled(9, -2000)...)
	cases := []struct{ stones, hours, used int64 }{{1000, 2, 1400}, {700, 2, 1400}, {699, 3, 1400}, {400, 4, 1400}, {399, 4, 1399}, {300, 5, 1300}, {125, 9, 1125}, {112, 10, 1112}}
	for _, v := range cases {
		hours, code := impl.HoursToClose(deepBowl(), wide, outside, v.stones)
		used, usedCode := impl.StonesNeeded(deepBowl(), wide, outside, v.stones)
		if hours != v.hours || used != v.used || code != impl.OK || usedCode != impl.OK {
			t.Errorf("%d stones: %d, %d in %d, %d", v.stones, used, usedCode, hours, code)
		}
	}
	if hours, code := impl.HoursToClose(deepBowl(), wide, outside, 111); hours != 0 || code != impl.ErrNotFound {
		t.Errorf("111 stones: %d, %d", hours, code)
	}
}

// checkHours holds the hours to a level and until a breach is closed against the definition.
func checkHours(t *testing.T, a breachArguments, levels []int64) {
	t.Helper()
	dry, _ := followedBy(a.curve, a.breach, a.outside, filled(len(a.outside), 0))
	for _, level := range levels {
		want, wantCode := firstWhere(dry, func(b impl.Breach) bool { return insideBy(a.curve, b) >= level })
		if got, code := impl.HoursToLevel(a.curve, a.breach, a.outside, level); got != want || code != wantCode {
			t.Fatalf("HoursToLevel of %v and %d is %d, %d, not %d, %d", a, level, got, code, want, wantCode)
		}
	}
	states, sums := followedBy(a.curve, a.breach, a.outside, filled(len(a.outside), a.number))
	want, wantCode := firstWhere(states, func(b impl.Breach) bool { return b.Width == 0 })
	if got, code := impl.HoursToClose(a.curve, a.breach, a.outside, a.number); got != want || code != wantCode {
		t.Fatalf("HoursToClose of %v is %d, %d, not %d, %d", a, got, code, want, wantCode)
	}
	if got, code := impl.StonesNeeded(a.curve, a.breach, a.outside, a.number); got != sums[want] || code != wantCode {
		t.Fatalf("StonesNeeded of %v are %d, %d, not %d, %d", a, got, code, sums[want], wantCode)
	}
}

// firstWhere is the first index of a breach that is something, or ErrNotFound if there is none.
func firstWhere(states []impl.Breach, is func(b impl.Breach) bool) (int64, int64) {
	if k := slices.IndexFunc(states, is); k >= 0 {
		return int64(k), impl.OK
	}
	return 0, impl.ErrNotFound
}

func TestHoursByTheirDefinition(t *testing.T) {
	source := rand.New(rand.NewSource(32))
	for round := range 4000 {
		a := randomRun(source, round%10, []int64{0, 1, 4, 9, 30}[round%5])
		checkHours(t, a, levelsFor(a.curve, a.breach))
	}
	for range 40 {
		a := randomRun(source, 100, 12)
		checkHours(t, a, levelsFor(a.curve, a.breach))
	}
	for _, c := range breachCurves() {
		for k, b := range breachesOf(c) {
			a := breachArguments{curve: c, breach: b, outside: levelsFor(c, b), number: int64(k * 13 % 1001)}
			checkHours(t, a, []int64{lowestOf(c), insideBy(c, b), highestOf(c), 2000})
		}
	}
}

func TestLeastStones(t *testing.T) {
	bowl, deep, pond := bowl(), deepBowl(), curve(-100, 0, 100, 20000)
	cases := []struct {
		curve             impl.Curve
		breach            impl.Breach
		outside           []int64
		level, want, code int64
	}{
		{bowl, impl.Breach{Width: 10, Sill: -50}, filled(2, 0), 0, 0, impl.OK},
		{bowl, impl.Breach{Width: 10, Sill: -50}, filled(2, 0), 2000, 0, impl.OK},
		{bowl, impl.Breach{Width: 10, Sill: -50}, filled(2, 0), -1, 0, impl.ErrFlood},
		{bowl, impl.Breach{Width: 10, Sill: -50}, filled(2, 0), -60, 0, impl.ErrFlood},
		{bowl, impl.Breach{Width: 10, Sill: -50}, filled(1, 0), 0, 0, impl.OK},
		{bowl, impl.Breach{Width: 10, Sill: -50}, filled(1, 0), -1, 0, impl.ErrFlood},
		// The water of the first hour comes in with as many stones as there may be.
		{bowl, impl.Breach{Width: 1, Sill: -50}, filled(2, 0), -51, 0, impl.ErrFlood},
		{bowl, impl.Breach{Width: 1, Sill: -50}, filled(2, 0), -50, 6, impl.OK},
		{bowl, impl.Breach{Width: 1, Sill: -50}, filled(2, 0), -1, 6, impl.OK},
		{bowl, impl.Breach{Width: 1, Sill: -50}, filled(2, 0), 0, 0, impl.OK},
		{bowl, impl.Breach{Width: 1, Sill: -50}, filled(100, 0), -50, 6, impl.OK},
		{pond, impl.Breach{Width: 1, Sill: -100}, filled(3, 0), -91, 0, impl.ErrFlood},
		{pond, impl.Breach{Width: 1, Sill: -100}, filled(3, 0), -90, 11, impl.OK},
		{pond, impl.Breach{Width: 1, Sill: -100}, filled(3, 0), -82, 11, impl.OK},
		{pond, impl.Breach{Width: 1, Sill: -100}, filled(3, 0), -81, 10, impl.OK},
		{pond, impl.Breach{Width: 1, Sill: -100}, filled(3, 0), -58, 10, impl.OK},
		{pond, impl.Breach{Width: 1, Sill: -100}, filled(3, 0), -57, 9, impl.OK},
		{pond, impl.Breach{Width: 1, Sill: -100}, filled(3, 0), 0, 0, impl.OK},
		// One stone in each hour has the water stand lower after the second hour, and so higher after the third one.
		{curve(0, 0, 100, 19490), impl.Breach{Width: 6, Sill: -15}, []int64{86, 37, 36}, 36, 0, impl.OK},
		{curve(0, 0, 100, 19490), impl.Breach{Width: 6, Sill: -15}, []int64{86, 37, 36}, 35, 0, impl.OK},
		{curve(0, 0, 100, 19490), impl.Breach{Width: 6, Sill: -15}, []int64{86, 37, 36}, 34, 4, impl.OK},
		// At the beginning already.
		{bowl, impl.Breach{Width: 10, Sill: -50}, nil, -100, 0, impl.OK},
		{bowl, impl.Breach{Width: 10, Sill: -50}, nil, -101, 0, impl.ErrFlood},
		{bowl, impl.Breach{Width: 10, Sill: -50, Water: 1000}, nil, 0, 0, impl.OK},
		{bowl, impl.Breach{Width: 10, Sill: -50, Water: 1001}, nil, 0, 0, impl.ErrFlood},
		{bowl, impl.Breach{Width: 10, Sill: -50, Water: 1000}, filled(5, -60), 0, 0, impl.OK},
		{bowl, impl.Breach{Width: 10, Sill: -50, Water: 1000}, filled(5, -60), -1, 0, impl.ErrFlood},
		{bowl, impl.Breach{Width: 10, Sill: -50}, filled(5, 0), -2000, 0, impl.ErrFlood},
		// A breach that is closed at once needs no stones.
		{bowl, impl.Breach{Sill: -50}, filled(100, 2000), -100, 0, impl.OK},
		{bowl, impl.Breach{Sill: -50}, filled(100, 2000), -101, 0, impl.ErrFlood},
		{bowl, impl.Breach{Sill: -50, Water: 1001}, filled(100, 2000), 1, 0, impl.OK},
		{bowl, impl.Breach{Sill: -50, Water: 1001}, filled(100, 2000), 0, 0, impl.ErrFlood},
		{bowl, impl.Breach{Sill: -50}, nil, -100, 0, impl.OK},
		// Just as many stones as there may be, and one more.
		{deep, impl.Breach{Width: 999, Sill: -2000}, []int64{-1999, 2000}, -1999, 1000, impl.OK},
		{deep, impl.Breach{Width: 998, Sill: -2000}, []int64{-1999, 2000}, -1999, 999, impl.OK},
		{deep, impl.Breach{Width: 1000, Sill: -2000}, []int64{-1999, 2000}, -1999, 0, impl.ErrFlood},
		{deep, impl.Breach{Width: 1000, Sill: -2000}, []int64{-1999, 2000}, -1995, 1000, impl.OK},
		{bowl, impl.Breach{Width: 10, Sill: -50}, filled(100, 0), 0, 0, impl.OK},
		{bowl, impl.Breach{Width: 10, Sill: -50}, filled(101, 0), 0, 0, impl.ErrRange},
		{bowl, impl.Breach{Width: 10, Sill: -50}, filled(2, 0), 2001, 0, impl.ErrRange},
		{bowl, impl.Breach{Width: 10, Sill: -50}, filled(2, 0), -2001, 0, impl.ErrRange},
		{bowl, impl.Breach{Width: 10, Sill: -50}, []int64{0, 2001}, -100, 0, impl.ErrRange},
		{bowl, impl.Breach{Sill: -50}, []int64{-2001}, -101, 0, impl.ErrRange},
		{bowl, impl.Breach{Width: 1001, Sill: -50}, []int64{2001}, 2001, 0, impl.ErrInvalid},
		{bowl, impl.Breach{Water: 2001}, nil, -2000, 0, impl.ErrInvalid},
		{impl.Curve{}, impl.Breach{}, filled(101, 0), 0, 0, impl.ErrInvalid},
	}
	for _, v := range cases {
		if got, code := impl.LeastStones(v.curve, v.breach, v.outside, v.level); got != v.want || code != v.code {
			t.Errorf("LeastStones(%v, %v, %v, %d) = %d, %d", v.curve, v.breach, v.outside, v.level, got, code)
		}
	}
}

// checkLeastStones is promise 13 for one level: the told stones keep the water low enough, and with none it is ErrFlood; fewer ones
// do not.
func checkLeastStones(t *testing.T, a breachArguments, level int64) (int64, int64) {
	t.Helper()
	got, code := impl.LeastStones(a.curve, a.breach, a.outside, level)
	if want, wantCode := leastBy(a.curve, a.breach, a.outside, level); got != want || code != wantCode {
		t.Fatalf("LeastStones of %v and %d is %d, %d, not %d, %d", a, level, got, code, want, wantCode)
	}
	if code != impl.OK {
		return got, code
	}
	states, code := impl.RunBreach(a.curve, a.breach, a.outside, filled(len(a.outside), got))
	for _, b := range append(states, a.breach) {
		if insideBy(a.curve, b) > level || code != impl.OK {
			t.Fatalf("with %d stones, %v comes to %v, %d", got, a, b, code)
		}
	}
	return got, code
}

// TestLeastStonesAgainstAll is promise 13 for stones: all numbers of them are tried.
func TestLeastStonesAgainstAll(t *testing.T) {
	source := rand.New(rand.NewSource(33))
	codes := map[int64]int{}
	for round := range 400 {
		a := randomRun(source, round%7, 5)
		states, _ := followedBy(a.curve, a.breach, a.outside, filled(len(a.outside), 1000))
		flooded, _ := followedBy(a.curve, a.breach, a.outside, filled(len(a.outside), 0))
		low, high := insideBy(a.curve, states[len(states)-1]), insideBy(a.curve, flooded[len(flooded)-1])
		for _, level := range []int64{low - 1, low, low + 1, (low + high) / 2, high - 1, high} {
			stones, code := checkLeastStones(t, a, level)
			if codes[code]++; stones > 0 {
				codes[-1]++
			}
		}
	}
	if codes[impl.OK] < 500 || codes[impl.ErrFlood] < 300 || codes[-1] < 200 {
		t.Errorf("the tests are one-sided: %v", codes)
	}
}

// TestMoreStonesAreNotAlwaysBetter has waters that rise higher with one stone more: the least stones are told also where more of
// them would not do.
func TestMoreStonesAreNotAlwaysBetter(t *testing.T) {
	source := rand.New(rand.NewSource(34))
	found := 0
	for range 20000 {
		c := curve(0, 0, 100, 1000+source.Int63n(19000))
		a := breachArguments{curve: c, breach: impl.Breach{Width: 1 + source.Int63n(6), Sill: source.Int63n(60) - 30}}
		for range 3 {
			a.outside = append(a.outside, source.Int63n(120))
		}
		for stones := range int64(4) {
			fewer, _ := followedBy(c, a.breach, a.outside, filled(3, stones))
			if level := insideBy(c, fewer[3]); !staysBy(c, a.breach, a.outside, stones+1, level) {
				checkLeastStones(t, a, level)
				found++
			}
		}
	}
	if found == 0 {
		t.Error("more stones have always been better")
	}
}

// breachesText writes a breach by the definition of its text.
func breachesText(b impl.Breach) string {
	return fmt.Sprintf("%dm sill %d water %d", b.Width, b.Sill, b.Water)
}

// hasText tells by the definition whether a breach has a text.
func hasText(b impl.Breach) bool {
	return b.Width >= 0 && b.Width <= 1000 && b.Sill >= -2000 && b.Sill <= 2000 && b.Water >= 0 && b.Water <= 1000000000
}

// textOfBreach writes a breach by the definition of its text, if it has one.
func textOfBreach(b impl.Breach) string {
	if !hasText(b) {
		return "no breach"
	}
	return breachesText(b)
}

func isZeroBreach(b impl.Breach) bool { return b == impl.Breach{} }

func TestBreachesAreReadBack(t *testing.T) {
	example := impl.Breach{Width: 10, Sill: -50}
	if got := impl.BreachText(example); got != "10m sill -50 water 0" {
		t.Errorf("BreachText(%v) = %q", example, got)
	}
	good := []impl.Breach{{}, {Width: 1000, Sill: -2000, Water: 1000000000}}
	for _, c := range breachCurves() {
		good = append(good, breachesOf(c)...)
	}
	checkReadBack(t, good, badBreaches(), breachesText, impl.BreachText, impl.ReadBreach)
}

func TestNoTextsOfBreaches(t *testing.T) {
	checkNotRead(t, []string{
		"10", "10m", "m", "10m sill", "10m sill -50", "10m sill -50 water", "10m sill -50 water ", "10m sill  water 0", "m sill -50 water 0", "10 sill -50 water 0", "10m -50 water 0", "10m sill -50 0",
		" 10m sill -50 water 0", "10m sill -50 water 0 ", "10m  sill -50 water 0", "10m sill  -50 water 0", "10m sill -50  water 0", "10m sill -50 water  0", "10m sill -50 water 0\n", "10m\tsill -50 water 0",
		"10 m sill -50 water 0", "10msill -50 water 0", "10m sill-50 water 0", "10m sill -50water 0", "10m sill -50 water0", "10M sill -50 water 0", "10m Sill -50 water 0", "10m sill -50 Water 0",
		"10m water 0 sill -50", "sill -50 10m water 0", "10mm sill -50 water 0", "10m sill -50m water 0", "10m sill -50 water 0m", "10m sill -50 water 0 water 0", "10m sill -50 sill -50 water 0",
		"10m sill -50 water 0 1", "1 10m sill -50 water 0", "010m sill -50 water 0", "+10m sill -50 water 0", "-10m sill -50 water 0", "-0m sill -50 water 0", "10m sill -050 water 0", "10m sill +50 water 0",
		"10m sill -0 water 0", "10m sill --50 water 0", "10m sill -50 water 00", "10m sill -50 water -0", "10m sill -50 water +0", "10m sill -50 water -1", "10.0m sill -50 water 0", "1e1m sill -50 water 0",
		"1001m sill -50 water 0", "-1m sill -50 water 0", "10m sill -2001 water 0", "10m sill 2001 water 0", "10m sill -50 water 1000000001", "0m sill 0 water x", "xm sill 0 water 0", "0m sill x water 0",
		"18446744073709551626m sill -50 water 0", "10m sill -18446744073709551666 water 0", "10m sill -50 water 18446744073709551616", "１0m sill -50 water 0", "10m sill −50 water 0",
		"10m\u00a0sill -50 water 0", "10m sill -50 water 0\x00", "\x0010m sill -50 water 0", strings.Repeat("1", 5000) + "m sill -50 water 0", strings.Repeat("10m sill -50 water 0", 500),
		"m sill ", "m sill  water ", " water ", "m sill m sill  water  water ",
	}, impl.ReadBreach, isZeroBreach)
}

func TestReadBreachOnChanges(t *testing.T) {
	texts := []string{"10m sill -50 water 0", "0m sill 0 water 0", "1000m sill -2000 water 1000000000", "999m sill 2000 water 7"}
	checkReader(t, texts, impl.ReadBreach, textOfBreach, isZeroBreach)
}

// TestReadBreachByNumber reads and writes breaches with numbers around all limits at each place.
func TestReadBreachByNumber(t *testing.T) {
	for _, n := range breachNumbers {
		for _, b := range []impl.Breach{{Width: n, Sill: -50, Water: 5}, {Width: 10, Sill: n, Water: 5}, {Width: 10, Sill: -50, Water: n}, {Width: n, Sill: n, Water: n}} {
			got, ok := impl.ReadBreach(breachesText(b))
			if ok != hasText(b) || ok && got != b || !ok && !isZeroBreach(got) {
				t.Errorf("ReadBreach(%q) = %v, %v", breachesText(b), got, ok)
			}
			if text := impl.BreachText(b); (text != "") != hasText(b) || ok && text != breachesText(b) {
				t.Errorf("BreachText(%v) = %q", b, text)
			}
		}
	}
}

// breachArguments are an argument of each kind for the functions of chapter 12; the number is that of the stones in each hour.
type breachArguments struct {
	curve           impl.Curve
	breach          impl.Breach
	level, number   int64
	outside, stones []int64
}

// calls are all functions of chapter 12 that return a code, with their results as texts, and the code at the end.
func (a breachArguments) calls() map[string]string {
	return map[string]string{
		"HeadOf":       fmt.Sprint(impl.HeadOf(a.curve, a.breach, a.level)),
		"InflowOf":     fmt.Sprint(impl.InflowOf(a.curve, a.breach, a.level)),
		"StepBreach":   fmt.Sprint(impl.StepBreach(a.curve, a.breach, a.level, a.number)),
		"RunBreach":    fmt.Sprint(impl.RunBreach(a.curve, a.breach, a.outside, a.stones)),
		"HoursToLevel": fmt.Sprint(impl.HoursToLevel(a.curve, a.breach, a.outside, a.level)),
		"HoursToClose": fmt.Sprint(impl.HoursToClose(a.curve, a.breach, a.outside, a.number)),
		"LeastStones":  fmt.Sprint(impl.LeastStones(a.curve, a.breach, a.outside, a.level)),
		"StonesNeeded": fmt.Sprint(impl.StonesNeeded(a.curve, a.breach, a.outside, a.number)),
	}
}

// noBreachResults are the zero values of the results of the calls.
var noBreachResults = map[string]string{
	"HeadOf": "0", "InflowOf": "0", "StepBreach": "{0 0 0}", "RunBreach": "[]", "HoursToLevel": "0", "HoursToClose": "0", "LeastStones": "0", "StonesNeeded": "0",
}

// isInRange tells by the definition of which calls the arguments are in range.
func (a breachArguments) isInRange() map[string]bool {
	isLevel := func(n int64) bool { return n >= -2000 && n <= 2000 }
	isNumber := func(n int64) bool { return n >= 0 && n <= 1000 }
	areHours, areStones := len(a.outside) <= 100, len(a.stones) == len(a.outside)
	for _, level := range a.outside {
		areHours = areHours && isLevel(level)
	}
	for _, stones := range a.stones {
		areStones = areStones && isNumber(stones)
	}
	return map[string]bool{
		"HeadOf": isLevel(a.level), "InflowOf": isLevel(a.level), "StepBreach": isLevel(a.level) && isNumber(a.number), "RunBreach": areHours && areStones,
		"HoursToLevel": areHours && isLevel(a.level), "HoursToClose": areHours && isNumber(a.number), "LeastStones": areHours && isLevel(a.level), "StonesNeeded": areHours && isNumber(a.number),
	}
}

// isValid tells by the definition whether the breach is valid for the curve.
func (a breachArguments) isValid() bool {
	return impl.ValidCurve(a.curve) && hasText(a.breach) && a.breach.Water <= lastVolume(a.curve)
}

// checkCodes has the first errors come just where they should, and other ones only where there may be some.
func (a breachArguments) checkCodes(t *testing.T) {
	t.Helper()
	others := map[string]string{"HoursToLevel": "3", "HoursToClose": "3", "StonesNeeded": "3", "LeastStones": "10"}
	isValid, isInRange := a.isValid(), a.isInRange()
	for name, got := range a.calls() {
		checkErrors(t, name, a, got, noBreachResults[name], isValid, isInRange[name])
		if !slices.Contains([]string{"0", "1", "2", others[name]}, codeIn(got)) {
			t.Fatalf("%s with %v: %s", name, a, got)
		}
		if impl.ValidBreach(a.curve, a.breach) != isValid {
			t.Fatalf("%v is told to be valid for %v: %v", a.breach, a.curve, !isValid)
		}
	}
}

// breachNumbers are numbers at and around all limits of the chapter.
var breachNumbers = append([]int64{2, 5, -5, 50, 99, 100, 101, 999, 1000, 1001, 1999, 2000, 2001, -1999, -2000, -2001, 999999999, 1000000000, 1000000001}, extremes...)

// TestBreachCodes looks at all functions with good and bad arguments of each kind, alone and together.
func TestBreachCodes(t *testing.T) {
	good := breachArguments{curve: bowl(), breach: impl.Breach{Width: 10, Sill: -50}, outside: filled(3, 0), stones: filled(3, 5), level: 0, number: 5}
	good.checkCodes(t)
	curves := slices.Concat([]impl.Curve{bowl(), deepBowl(), evenCurve(12, 0, 1, 1)}, badCurves())
	breaches := append(badBreaches(), impl.Breach{}, impl.Breach{Width: 10, Sill: -50}, impl.Breach{Sill: -50, Water: 2000}, impl.Breach{Sill: -50, Water: 2001})
	for _, c := range curves {
		for _, b := range breaches {
			for _, n := range breachNumbers {
				breachArguments{curve: c, breach: b, level: n}.checkCodes(t)
				breachArguments{curve: c, breach: b, number: n}.checkCodes(t)
				breachArguments{curve: c, breach: b, outside: []int64{0, n}, stones: []int64{n, 0}, level: 5, number: n}.checkCodes(t)
				breachArguments{curve: c, breach: b, outside: filled(3, n), stones: []int64{5, n}, level: n, number: n}.checkCodes(t)
			}
		}
	}
	for _, n := range breachNumbers {
		for _, hours := range []int{0, 1, 99, 100, 101, 5000} {
			for _, more := range []int{-1, 0, 1} {
				a := good
				a.outside, a.stones, a.number = filled(hours, 0), filled(max(hours+more, 0), 5), n
				a.checkCodes(t)
				a.level, a.number = n, 5
				a.checkCodes(t)
				a.breach.Width = n
				a.checkCodes(t)
			}
		}
	}
}

// TestBreachCodesByHour puts numbers around the limits at each hour of a run.
func TestBreachCodesByHour(t *testing.T) {
	for _, many := range []int{1, 2, 100} {
		for k := range many {
			for _, n := range breachNumbers {
				for place := range 2 {
					lists := [][]int64{filled(many, 0), filled(many, 5)}
					lists[place][k] = n
					breachArguments{curve: bowl(), breach: impl.Breach{Width: 10, Sill: -50}, outside: lists[0], stones: lists[1], number: 5}.checkCodes(t)
				}
			}
		}
	}
}

// markBreach fills the capacity of a list of breaches, where a write would show.
var markBreach = impl.Breach{Width: spareMark, Sill: -spareMark, Water: spareMark}

// withGuards returns the arguments with marks in the unused capacity of their lists, and a function that fails if one of
// the lists, or one of the marks, has been changed.
func (a breachArguments) withGuards(t *testing.T) (breachArguments, func()) {
	t.Helper()
	var unchanged [4]func()
	a.curve.Levels, unchanged[0] = guarded(t, a.curve.Levels, spareMark)
	a.curve.Volumes, unchanged[1] = guarded(t, a.curve.Volumes, spareMark)
	a.outside, unchanged[2] = guarded(t, a.outside, spareMark)
	a.stones, unchanged[3] = guarded(t, a.stones, spareMark)
	return a, together(t, unchanged[:]...)
}

// withCopies returns the arguments with copies of their lists, which have no unused capacity.
func (a breachArguments) withCopies() breachArguments {
	a.curve = copyOfCurve(a.curve)
	a.outside, a.stones = slices.Clip(slices.Clone(a.outside)), slices.Clip(slices.Clone(a.stones))
	return a
}

// breachRuns are arguments of all kinds.
func breachRuns() []breachArguments {
	source := rand.New(rand.NewSource(35))
	var runs []breachArguments
	for _, c := range slices.Concat(breachCurves()[:12], badCurves()[:15]) {
		for k, b := range slices.Concat([]impl.Breach{{}, {Width: 10, Sill: -50}, {Width: 1000, Sill: -2000, Water: 1}, {Sill: -50, Water: 3}, {Width: 5, Sill: 5, Water: 2000}}, badBreaches()[:8]) {
			a := breachArguments{curve: c, breach: b, level: source.Int63n(300) - 150, number: source.Int63n(30), outside: filled(k*9, 60), stones: filled(k*9, 2)}
			runs = append(runs, a)
			a.level, a.number = 2001, 1001
			runs = append(runs, a)
		}
	}
	for round := range 200 {
		a := randomRun(source, round%12, 20)
		a.level = source.Int63n(100) - 40
		runs = append(runs, a)
	}
	return runs
}

// TestBreachFunctionsArePure is promise 1 for all functions of chapter 12: they return, change nothing, and give the same
// once more.
func TestBreachFunctionsArePure(t *testing.T) {
	for _, a := range breachRuns() {
		checkCallsPure(t, a)
		a.checkCodes(t)
		with, unchanged := a.withGuards(t)
		isValid, text := impl.ValidBreach(with.curve, with.breach), impl.BreachText(with.breach)
		unchanged()
		if impl.ValidBreach(copyOfCurve(a.curve), a.breach) != isValid || impl.BreachText(a.breach) != text {
			t.Fatalf("%v is told to be valid for %v: %v, with the text %q", a.breach, a.curve, isValid, text)
		}
	}
	for _, text := range append(slices.Clone(oddTexts), "10m sill -50 water 0") {
		first, ok := impl.ReadBreach(text)
		if again, okAgain := impl.ReadBreach(strings.Clone(text)); first != again || ok != okAgain {
			t.Errorf("ReadBreach of %q differs", text)
		}
	}
}

// TestBreachResultsAreNew is promise 1 as well: no result shares memory with an argument or with another one, and none can be
// written to by appending to another one.
func TestBreachResultsAreNew(t *testing.T) {
	for _, a := range breachRuns() {
		with, unchanged := a.withGuards(t)
		run := func() []impl.Breach {
			states, _ := impl.RunBreach(with.curve, with.breach, with.outside, with.stones)
			return states
		}
		checkFresh(t, run, markBreach, unchanged)
		first, second := run(), run()
		longer := append(first, markBreach)
		overwriteWith(longer, markBreach)
		if third := run(); !slices.Equal(second, third) {
			t.Fatalf("%v is followed by %v", second, third)
		}
		unchanged()
	}
}

// TestOneListForOutsideAndStones gives the same memory to a function as levels outside and as stones, and as a curve.
func TestOneListForOutsideAndStones(t *testing.T) {
	for _, list := range append(oddLists(), []int64{0, 2, 0}, []int64{0, 1, 2, 1000}, countingUp(0, 11), filled(100, 1), filled(101, 2), []int64{0, 1000, 1001}) {
		for _, c := range []impl.Curve{bowl(), {Levels: list, Volumes: list}} {
			a := breachArguments{curve: c, breach: impl.Breach{Width: 3, Sill: -50}, level: 1, number: 2, outside: list, stones: list}
			checkOneList(t, a, list)
			a.checkCodes(t)
		}
	}
}
