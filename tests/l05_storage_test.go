package tests

import (
	"fmt"
	"maps"
	"math"
	"math/rand"
	"slices"
	"strings"
	"testing"

	"loop.example/g01032/impl"
)

// curve returns the curve with knots, each of them told by its level and its volume.
func curve(knots ...int64) impl.Curve {
	var c impl.Curve
	for knot := range slices.Chunk(knots, 2) {
		c.Levels = append(c.Levels, knot[0])
		c.Volumes = append(c.Volumes, knot[1])
	}
	return c
}

func copyOfCurve(c impl.Curve) impl.Curve {
	return impl.Curve{Levels: slices.Clone(c.Levels), Volumes: slices.Clone(c.Volumes)}
}

// evenCurve returns a curve with many knots, the first one at a level with no water, and always with
// the same height and the same volume between two of them.
func evenCurve(many, level, height, volume int64) impl.Curve {
	var c impl.Curve
	for k := range many {
		c.Levels = append(c.Levels, level+k*height)
		c.Volumes = append(c.Volumes, k*volume)
	}
	return c
}

// randomCurves returns curves with 2 to 12 knots, always the same ones, where the level and the volume
// grow at most by some numbers from a knot to the next one.
func randomCurves(seed int64, many int, height, volume int64) []impl.Curve {
	source := rand.New(rand.NewSource(seed))
	var curves []impl.Curve
	for knots := 2; knots <= 12; knots++ {
		for range many {
			level, sum := source.Int63n(101)-50, int64(0)
			var c impl.Curve
			for range knots {
				c.Levels = append(c.Levels, level)
				c.Volumes = append(c.Volumes, sum)
				level += 1 + source.Int63n(height)
				sum += 1 + source.Int63n(volume)
			}
			curves = append(curves, c)
		}
	}
	return curves
}

// limitCurves are curves that reach a limit, among them those where a centimetre has very much water,
// and those where many levels have the same volume.
func limitCurves() []impl.Curve {
	return []impl.Curve{
		curve(-2000, 0, 2000, 1), curve(-2000, 0, 2000, 1000000000), curve(-2000, 0, -1999, 1), curve(1999, 0, 2000, 1000000000),
		curve(-2000, 0, 1999, 999999999, 2000, 1000000000), curve(-2000, 0, -1999, 999999999, 2000, 1000000000), curve(0, 0, 3, 2, 6, 3),
		curve(0, 0, 7, 3), curve(-7, 0, 0, 3), curve(-100, 0, 0, 1000, 50, 5000), curve(-1, 0, 0, 1, 1, 2), curve(0, 0, 3999-2000, 999999937),
		evenCurve(12, -2000, 363, 90909090), evenCurve(12, 0, 1, 1), evenCurve(12, 1989, 1, 7), evenCurve(12, -50, 100, 1), evenCurve(2, 0, 1, 1),
	}
}

func allCurves() []impl.Curve {
	return slices.Concat(limitCurves(), randomCurves(1, 6, 4, 3), randomCurves(2, 6, 1, 1000), randomCurves(3, 6, 60, 2), randomCurves(4, 6, 90, 80000000))
}

// badCurves are curves that are not valid, each for one reason.
func badCurves() []impl.Curve {
	return []impl.Curve{
		{}, {Levels: []int64{}, Volumes: []int64{}}, {Levels: []int64{0, 1}}, {Volumes: []int64{0, 1}}, curve(0, 0), curve(5, 5),
		{Levels: []int64{0, 1, 2}, Volumes: []int64{0, 1}}, {Levels: []int64{0, 1}, Volumes: []int64{0, 1, 2}}, {Levels: []int64{0, 1}, Volumes: []int64{0}},
		{Levels: []int64{0}, Volumes: []int64{0, 1}}, {Levels: []int64{0, 1}, Volumes: []int64{}}, {Levels: extremes, Volumes: []int64{0}},
		evenCurve(13, 0, 1, 1), evenCurve(2000, -2000, 1, 1), evenCurve(5000, -2000, 1, 1),
		curve(0, 0, 0, 1), curve(1, 0, 0, 1), curve(0, 0, 5, 1, 5, 2), curve(0, 0, 5, 1, 4, 2), curve(0, 0, 5, 1, 3, 2, 7, 3),
		curve(-2001, 0, 0, 1), curve(0, 0, 2001, 1), curve(-2001, 0, 2001, 1), curve(math.MinInt64, 0, 0, 1), curve(0, 0, math.MaxInt64, 1),
		curve(0, 1, 5, 2), curve(0, -1, 5, 2), curve(0, -1, 5, 0), curve(0, -1, 5, 0, 6, 1), curve(0, 0, 5, 0), curve(0, 0, 5, -1), curve(0, 0, 5, 1, 6, 1),
		curve(0, 0, 5, 2, 6, 1), curve(0, 0, 5, 1000000001), curve(0, 0, 5, 1000000000, 6, 1000000001), curve(0, 0, 5, math.MaxInt64),
		curve(0, math.MinInt64, 5, math.MaxInt64), curve(math.MinInt64, 0, math.MaxInt64, 1), curve(math.MaxInt64, 0, math.MinInt64, 1),
	}
}

func lowestOf(c impl.Curve) int64 { return c.Levels[0] }

func highestOf(c impl.Curve) int64 { return c.Levels[len(c.Levels)-1] }

// knotUnder returns the greatest one of the Levels, without the last one, that is not greater than a level.
func knotUnder(c impl.Curve, level int64) int {
	knot := 0
	for k := range len(c.Levels) - 1 {
		if c.Levels[k] <= level {
			knot = k
		}
	}
	return knot
}

// volumeOn is the volume at a level of the curve by the definition: the mean of the volumes at the knots
// around it, by their heights from it.
func volumeOn(c impl.Curve, level int64) int64 {
	k := knotUnder(c, level)
	below, above := level-c.Levels[k], c.Levels[k+1]-level
	return (c.Volumes[k]*above + c.Volumes[k+1]*below) / (above + below)
}

// levelsAround are levels of a curve: each knot, the levels next to it, and some in between.
func levelsAround(c impl.Curve) []int64 {
	var levels []int64
	for k, level := range c.Levels {
		levels = append(levels, level-1, level, level+1)
		if k > 0 {
			levels = append(levels, (c.Levels[k-1]+level)/2, (2*c.Levels[k-1]+level)/3)
		}
	}
	return slices.DeleteFunc(levels, func(level int64) bool { return level < lowestOf(c) || level > highestOf(c) })
}

// volumesAround are volumes of a curve: those of its knots, those next to them, and those of levels in between.
func volumesAround(c impl.Curve) []int64 {
	var volumes []int64
	for _, level := range levelsAround(c) {
		volume := volumeOn(c, level)
		volumes = append(volumes, volume-1, volume, volume+1)
	}
	last := c.Volumes[len(c.Volumes)-1]
	return slices.DeleteFunc(volumes, func(volume int64) bool { return volume < 0 || volume > last })
}

func TestValidCurve(t *testing.T) {
	if impl.MaxKnots != 12 || impl.MaxVolume != 1000000000 {
		t.Error("the limits are wrong")
	}
	checkValidity(t, impl.ValidCurve, allCurves(), badCurves())
	for knots := range int64(15) {
		if got := impl.ValidCurve(evenCurve(knots, 0, 1, 1)); got != (knots >= 2 && knots <= 12) {
			t.Errorf("%d knots: %v", knots, got)
		}
	}
}

// TestValidCurveByKnot puts numbers around the limits and around the next knots at each knot.
func TestValidCurveByKnot(t *testing.T) {
	for _, c := range []impl.Curve{curve(-5, 0, 5, 10), curve(-5, 0, 0, 5, 5, 10), evenCurve(12, -10, 2, 3)} {
		last := len(c.Levels) - 1
		for k := range c.Levels {
			for _, n := range append([]int64{-2001, -2000, -6, -5, -4, -3, 4, 5, 6, 9, 10, 11, 2000, 2001, 999999999, 1000000000, 1000000001}, extremes...) {
				level, volume := copyOfCurve(c), copyOfCurve(c)
				level.Levels[k] = n
				want := n >= -2000 && n <= 2000 && (k == 0 || n > c.Levels[k-1]) && (k == last || n < c.Levels[k+1])
				if got := impl.ValidCurve(level); got != want {
					t.Errorf("ValidCurve(%v) = %v", level, got)
				}
				volume.Volumes[k] = n
				want = n >= 0 && n <= 1000000000 && (k > 0 || n == 0) && (k == 0 || n > c.Volumes[k-1]) && (k == last || n < c.Volumes[k+1])
				if got := impl.ValidCurve(volume); got != want {
					t.Errorf("ValidCurve(%v) = %v", volume, got)
				}
			}
		}
	}
}

func TestSameCurve(t *testing.T) {
	different := []impl.Curve{
		curve(0, 0, 1, 1), curve(0, 0, 1, 2), curve(0, 0, 2, 1), curve(-1, 0, 1, 1), curve(0, 0, 1, 1, 2, 2), curve(0, 0), curve(), curve(1, 1, 0, 0),
		{Levels: []int64{0, 1}}, {Volumes: []int64{0, 1}}, {Levels: []int64{0, 1}, Volumes: []int64{0}}, {Levels: []int64{0}, Volumes: []int64{0, 1}},
		curve(0, math.MaxInt64), curve(math.MinInt64, 0), evenCurve(13, 0, 1, 1),
	}
	checkDiffer(t, different, copyOfCurve, impl.SameCurve)
	if !impl.SameCurve(impl.Curve{}, impl.Curve{Levels: []int64{}, Volumes: []int64{}}) || !impl.SameCurve(impl.Curve{Levels: []int64{}}, impl.Curve{}) {
		t.Error("nil and empty lists are told to differ")
	}
}

// TestVolumeAt holds the volumes at all levels of curves, and next to them, against the definition.
func TestVolumeAt(t *testing.T) {
	example := curve(-100, 0, 0, 1000, 50, 5000)
	if n, code := impl.VolumeAt(example, 25); n != 3000 || code != impl.OK {
		t.Errorf("VolumeAt(%v, 25) = %d, %d", example, n, code)
	}
	for _, c := range allCurves() {
		for level := lowestOf(c) - 2; level <= highestOf(c)+2; level++ {
			want, wantCode := int64(0), int64(impl.ErrRange)
			if level >= lowestOf(c) && level <= highestOf(c) {
				want, wantCode = volumeOn(c, level), impl.OK
			}
			if got, code := impl.VolumeAt(c, level); got != want || code != wantCode {
				t.Fatalf("VolumeAt(%v, %d) = %d, %d, not %d, %d", c, level, got, code, want, wantCode)
			}
		}
		for k, level := range c.Levels {
			if got, code := impl.VolumeAt(c, level); got != c.Volumes[k] || code != impl.OK {
				t.Fatalf("VolumeAt(%v, %d) = %d, %d at a knot", c, level, got, code)
			}
		}
	}
}

func TestLevelAt(t *testing.T) {
	example, flat, steep := curve(-100, 0, 0, 1000, 50, 5000), curve(0, 0, 10, 1, 40, 3), curve(-5, 0, -4, 1000000000)
	cases := []struct {
		c                  impl.Curve
		volume, want, code int64
	}{
		{example, 0, -100, impl.OK},
		{example, 1, -99, impl.OK},
		{example, 10, -99, impl.OK},
		{example, 11, -98, impl.OK},
		{example, 990, -1, impl.OK},
		{example, 991, 0, impl.OK},
		{example, 999, 0, impl.OK},
		{example, 1000, 0, impl.OK},
		{example, 1001, 1, impl.OK},
		{example, 1080, 1, impl.OK},
		{example, 1081, 2, impl.OK},
		{example, 4999, 50, impl.OK},
		{example, 5000, 50, impl.OK},
		{example, 5001, 0, impl.ErrFlood},
		{example, 1000000000, 0, impl.ErrFlood},
		{example, 1000000001, 0, impl.ErrRange},
		{example, -1, 0, impl.ErrRange},
		{example, math.MaxInt64, 0, impl.ErrRange},
		{example, math.MinInt64, 0, impl.ErrRange},
		{flat, 0, 0, impl.OK},
		{flat, 1, 10, impl.OK},
		{flat, 2, 25, impl.OK},
		{flat, 3, 40, impl.OK},
		{flat, 4, 0, impl.ErrFlood},
		{steep, 0, -5, impl.OK},
		{steep, 1, -4, impl.OK},
		{steep, 999999999, -4, impl.OK},
		{steep, 1000000000, -4, impl.OK},
		{steep, 1000000001, 0, impl.ErrRange},
		{curve(-2000, 0, 2000, 1), 0, -2000, impl.OK},
		{curve(-2000, 0, 2000, 1), 1, 2000, impl.OK},
		{curve(-2000, 0, 2000, 1), 2, 0, impl.ErrFlood},
	}
	for _, c := range cases {
		if got, code := impl.LevelAt(c.c, c.volume); got != c.want || code != c.code {
			t.Errorf("LevelAt(%v, %d) = %d, %d, not %d, %d", c.c, c.volume, got, code, c.want, c.code)
		}
	}
}

// checkLeast fails if a told level of the curve does not have a volume, or if a lower one has.
func checkLeast(t *testing.T, c impl.Curve, volume, level, code int64) {
	t.Helper()
	if code != impl.OK || level < lowestOf(c) || level > highestOf(c) || volumeOn(c, level) < volume {
		t.Fatalf("%v: the level for %d is %d, %d", c, volume, level, code)
	}
	for lower := lowestOf(c); lower < level; lower++ {
		if volumeOn(c, lower) >= volume {
			t.Fatalf("%v: the level for %d is %d, not %d", c, volume, level, lower)
		}
	}
	if has, code := impl.VolumeAt(c, level); has < volume || code != impl.OK {
		t.Fatalf("%v: the level for %d is %d, which has %d, %d", c, volume, level, has, code)
	}
}

// TestLevelHasVolume is promise 6: the level for a volume has it, and no lower one has.
func TestLevelHasVolume(t *testing.T) {
	for _, c := range allCurves() {
		last := c.Volumes[len(c.Volumes)-1]
		for _, volume := range volumesAround(c) {
			level, code := impl.LevelAt(c, volume)
			checkLeast(t, c, volume, level, code)
		}
		if level, code := impl.LevelAt(c, last+1); level != 0 || code != impl.ErrFlood && last < 1000000000 {
			t.Errorf("LevelAt(%v, %d) = %d, %d", c, last+1, level, code)
		}
	}
	for _, c := range slices.Concat(randomCurves(5, 8, 5, 5), randomCurves(6, 4, 30, 3)) {
		for volume := range c.Volumes[len(c.Volumes)-1] + 1 {
			level, code := impl.LevelAt(c, volume)
			checkLeast(t, c, volume, level, code)
		}
	}
}

// TestLevelsAtKnots has the volume of each knot, whose level is the least one since the volume grows.
func TestLevelsAtKnots(t *testing.T) {
	for _, c := range allCurves() {
		for k, volume := range c.Volumes {
			if level, code := impl.LevelAt(c, volume); level != c.Levels[k] || code != impl.OK {
				t.Errorf("LevelAt(%v, %d) = %d, %d", c, volume, level, code)
			}
			if k == 0 {
				continue
			}
			if level, code := impl.AddWater(c, c.Levels[k-1], volume-c.Volumes[k-1]); level != c.Levels[k] || code != impl.OK {
				t.Errorf("%v: water up to the knot %d has the level %d, %d", c, k, level, code)
			}
			if level, code := impl.AddWater(c, c.Levels[k], c.Volumes[k-1]-volume); level != c.Levels[k-1] || code != impl.OK {
				t.Errorf("%v: water down from the knot %d has the level %d, %d", c, k, level, code)
			}
		}
	}
}

func TestAddWater(t *testing.T) {
	example, flat, steep := curve(-100, 0, 0, 1000, 50, 5000), curve(0, 0, 10, 1, 40, 3), curve(-5, 0, -4, 1000000000)
	cases := []struct {
		c                         impl.Curve
		level, volume, want, code int64
	}{
		{example, 0, 2000, 25, impl.OK},
		{example, 0, 0, 0, impl.OK},
		{example, 0, 1, 1, impl.OK},
		{example, 0, -1, 0, impl.OK},
		{example, 0, -10, -1, impl.OK},
		{example, 0, -1000, -100, impl.OK},
		{example, 0, -1001, 0, impl.ErrState},
		{example, 0, 4000, 50, impl.OK},
		{example, 0, 4001, 0, impl.ErrFlood},
		{example, -100, 0, -100, impl.OK},
		{example, -100, -1, 0, impl.ErrState},
		{example, -100, 5000, 50, impl.OK},
		{example, 50, 1, 0, impl.ErrFlood},
		{example, 50, -5000, -100, impl.OK},
		{example, 50, -1000000000, 0, impl.ErrState},
		{example, 50, 1000000000, 0, impl.ErrFlood},
		{example, 50, -1000000001, 0, impl.ErrRange},
		{example, 50, 1000000001, 0, impl.ErrRange},
		{example, 51, 0, 0, impl.ErrRange},
		{example, -101, 0, 0, impl.ErrRange},
		{example, 51, -1000000000, 0, impl.ErrRange},
		{example, -101, 1000000000, 0, impl.ErrRange},
		{example, math.MaxInt64, math.MaxInt64, 0, impl.ErrRange},
		{example, 0, math.MinInt64, 0, impl.ErrRange},
		{flat, 9, 1, 10, impl.OK},
		{flat, 9, 0, 0, impl.OK},
		{flat, 24, 0, 10, impl.OK},
		{flat, 25, 0, 25, impl.OK},
		{flat, 39, 1, 40, impl.OK},
		{flat, 39, 2, 0, impl.ErrFlood},
		{flat, 9, -1, 0, impl.ErrState},
		{steep, -4, -1000000000, -5, impl.OK},
		{steep, -5, 1000000000, -4, impl.OK},
		{steep, -4, 1000000000, 0, impl.ErrFlood},
		{steep, -5, -1000000000, 0, impl.ErrState},
	}
	for _, c := range cases {
		if got, code := impl.AddWater(c.c, c.level, c.volume); got != c.want || code != c.code {
			t.Errorf("AddWater(%v, %d, %d) = %d, %d, not %d, %d", c.c, c.level, c.volume, got, code, c.want, c.code)
		}
	}
}

// TestAddedWaterHasLevel is promise 6 for water that comes in, or goes.
func TestAddedWaterHasLevel(t *testing.T) {
	for _, c := range allCurves() {
		last := c.Volumes[len(c.Volumes)-1]
		for _, level := range levelsAround(c) {
			volume := volumeOn(c, level)
			for _, after := range []int64{0, 1, last / 3, volume - 1, volume, volume + 1, last - 1, last} {
				if after >= 0 && after <= last {
					got, code := impl.AddWater(c, level, after-volume)
					checkLeast(t, c, after, got, code)
				}
			}
			if got, code := impl.AddWater(c, level, -volume-1); got != 0 || code != impl.ErrState && volume < 1000000000 {
				t.Errorf("AddWater(%v, %d, %d) = %d, %d", c, level, -volume-1, got, code)
			}
			if got, code := impl.AddWater(c, level, last-volume+1); got != 0 || code != impl.ErrFlood && last-volume < 1000000000 {
				t.Errorf("AddWater(%v, %d, %d) = %d, %d", c, level, last-volume+1, got, code)
			}
		}
	}
}

// TestBetweenLevels holds SpaceTo and HoursToEmpty against the definitions, for pairs of levels of the curve.
func TestBetweenLevels(t *testing.T) {
	for _, c := range append(limitCurves(), randomCurves(7, 3, 40, 3000)...) {
		for _, from := range levelsAround(c) {
			for _, to := range levelsAround(c) {
				space := volumeOn(c, to) - volumeOn(c, from)
				if got, code := impl.SpaceTo(c, from, to); got != space || code != impl.OK {
					t.Fatalf("SpaceTo(%v, %d, %d) = %d, %d", c, from, to, got, code)
				}
				for _, rate := range []int64{1, 2, 7, 300, 999999999, 1000000000} {
					hours, code := impl.HoursToEmpty(c, from, to, rate)
					enough := hours*rate >= -space && (hours-1)*rate < -space
					if to > from && (hours != 0 || code != impl.ErrState) || to <= from && (!enough || code != impl.OK) {
						t.Fatalf("HoursToEmpty(%v, %d, %d, %d) = %d, %d", c, from, to, rate, hours, code)
					}
				}
			}
		}
	}
}

func TestHoursToEmpty(t *testing.T) {
	example := curve(-100, 0, 0, 1000, 50, 5000)
	cases := [][5]int64{
		{25, 0, 300, 7, impl.OK},
		{25, 0, 2000, 1, impl.OK},
		{25, 0, 1999, 2, impl.OK},
		{25, 0, 2001, 1, impl.OK},
		{25, 25, 1, 0, impl.OK},
		{50, -100, 1, 5000, impl.OK},
		{50, -100, 1000000000, 1, impl.OK},
		{50, -100, 1000000001, 0, impl.ErrRange},
		{50, -100, 0, 0, impl.ErrRange},
		{50, -100, -1, 0, impl.ErrRange},
		{0, 1, 1, 0, impl.ErrState},
		{0, 25, 300, 0, impl.ErrState},
		{0, 25, 0, 0, impl.ErrRange},
		{0, 25, 1000000001, 0, impl.ErrRange},
		{0, 51, 300, 0, impl.ErrRange},
		{-101, 0, 300, 0, impl.ErrRange},
		{51, 0, 300, 0, impl.ErrRange},
		{0, -101, 300, 0, impl.ErrRange},
		{0, 0, math.MinInt64, 0, impl.ErrRange},
		{0, 0, math.MaxInt64, 0, impl.ErrRange},
		{math.MinInt64, math.MaxInt64, 1, 0, impl.ErrRange},
	}
	for _, c := range cases {
		if got, code := impl.HoursToEmpty(example, c[0], c[1], c[2]); got != c[3] || code != c[4] {
			t.Errorf("HoursToEmpty(%v) = %d, %d", c, got, code)
		}
	}
	for _, c := range [][2]int64{{-101, 0}, {0, -101}, {51, 0}, {0, 51}, {math.MinInt64, math.MaxInt64}} {
		if got, code := impl.SpaceTo(example, c[0], c[1]); got != 0 || code != impl.ErrRange {
			t.Errorf("SpaceTo(%v) = %d, %d", c, got, code)
		}
	}
}

// TestAreaAt holds the areas at all levels of curves, and next to them, against the definition.
func TestAreaAt(t *testing.T) {
	for _, c := range allCurves() {
		for level := lowestOf(c) - 1; level <= highestOf(c)+1; level++ {
			f, code := impl.AreaAt(c, level)
			if level < lowestOf(c) || level > highestOf(c) {
				if f != (impl.Fraction{}) || code != impl.ErrRange {
					t.Fatalf("AreaAt(%v, %d) = %v, %d", c, level, f, code)
				}
				continue
			}
			k := knotUnder(c, level)
			volume, height := c.Volumes[k+1]-c.Volumes[k], c.Levels[k+1]-c.Levels[k]
			isLowest := true
			for divisor := int64(2); divisor <= f.Den; divisor++ {
				isLowest = isLowest && (f.Num%divisor != 0 || f.Den%divisor != 0)
			}
			if f.Num*height != f.Den*volume || f.Den < 1 || !isLowest || code != impl.OK {
				t.Fatalf("AreaAt(%v, %d) = %v, %d", c, level, f, code)
			}
		}
	}
}

func TestCurveOfLand(t *testing.T) {
	row, dot, full := land(1, 3, -10, 0, -5), land(1, 1, 0), flatLand(12, 12, -2000)
	cases := []struct {
		l              impl.Land
		from, to, step int64
		want           string
		code           int64
	}{
		{row, -10, 0, 4, "-10:0 -6:4 -2:11 0:15", impl.OK},
		{row, -10, 0, 5, "-10:0 -5:5 0:15", impl.OK},
		{row, -10, 0, 9, "-10:0 -1:13 0:15", impl.OK},
		{row, -10, 0, 10, "-10:0 0:15", impl.OK},
		{row, -10, 0, 4000, "-10:0 0:15", impl.OK},
		{row, -10, 1, 1, "-10:0 -9:1 -8:2 -7:3 -6:4 -5:5 -4:7 -3:9 -2:11 -1:13 0:15 1:18", impl.OK},
		{row, -10, 2, 1, "", impl.ErrFull},
		{row, -30, -20, 5, "", impl.ErrState},
		{row, -20, 0, 10, "", impl.ErrState},
		{row, -20, 0, 11, "-20:0 -9:1 0:15", impl.OK},
		{row, -11, -9, 1, "", impl.ErrState},
		{row, -11, -9, 2, "-11:0 -9:1", impl.OK},
		{row, 5, 7, 1, "5:0 6:3 7:6", impl.OK},
		{row, -10, 100, 5, "", impl.ErrFull},
		{row, -2000, -1000, 1, "", impl.ErrFull},
		{row, 0, 0, 5, "", impl.ErrRange},
		{row, 1, 0, 5, "", impl.ErrRange},
		{row, -10, 0, 0, "", impl.ErrRange},
		{row, -10, 0, -1, "", impl.ErrRange},
		{row, -10, 0, 4001, "", impl.ErrRange},
		{row, -2001, 0, 1, "", impl.ErrRange},
		{row, 0, 2001, 1, "", impl.ErrRange},
		{row, 0, 100, math.MinInt64, "", impl.ErrRange},
		{row, math.MinInt64, math.MaxInt64, 1, "", impl.ErrRange},
		{row, 0, 100, math.MaxInt64, "", impl.ErrRange},
		{dot, -10, 10, 10, "", impl.ErrState},
		{dot, -10, 10, 11, "-10:0 1:1 10:10", impl.OK},
		{dot, 1999, 2000, 1, "1999:0 2000:1", impl.OK},
		{dot, -2000, 2000, 4000, "-2000:0 2000:2000", impl.OK},
		{dot, -2000, 2000, 3999, "-2000:0 1999:1999 2000:2000", impl.OK},
		{full, -2000, 2000, 4000, "-2000:0 2000:576000", impl.OK},
		{full, -2000, 2000, 2000, "-2000:0 0:288000 2000:576000", impl.OK},
		{full, -2000, 2000, 363, "", impl.ErrFull},
		{flatLand(12, 12, 2000), -2000, 2000, 4000, "", impl.ErrState},
	}
	for _, c := range cases {
		got, code := impl.CurveOfLand(c.l, c.from, c.to, c.step)
		if impl.CurveText(got) != c.want || code != c.code || code != impl.OK && !isZeroCurve(got) {
			t.Errorf("CurveOfLand(%v, %d, %d, %d) = %v, %d", c.l, c.from, c.to, c.step, got, code)
		}
	}
	if got, code := impl.CurveOfLand(full, -2000, 2000, 364); len(got.Levels) != 12 || code != impl.OK {
		t.Errorf("twelve levels: %v, %d", got, code)
	}
}

// TestCurvesOfLands holds curves of many lands against the definition.
func TestCurvesOfLands(t *testing.T) {
	for _, l := range append(randomLands(8, -20, 20), randomLands(9, -2000, 2000)...) {
		for _, c := range [][3]int64{{-20, 20, 4}, {-20, 20, 3}, {-5, 3, 1}, {-3, 20, 7}, {-21, 15, 9}, {-2000, 2000, 400}, {-2000, 2000, 999}, {19, 25, 2}} {
			var want impl.Curve
			for level := c[0]; level <= c[1]; level++ {
				if (level-c[0])%c[2] == 0 || level == c[1] {
					want.Levels = append(want.Levels, level)
					want.Volumes = append(want.Volumes, volumeOf(l, level)-volumeOf(l, c[0]))
				}
			}
			wantCode := int64(impl.OK)
			if len(want.Levels) > 12 {
				want, wantCode = impl.Curve{}, impl.ErrFull
			} else if !impl.ValidCurve(want) {
				want, wantCode = impl.Curve{}, impl.ErrState
			}
			if got, code := impl.CurveOfLand(l, c[0], c[1], c[2]); !impl.SameCurve(got, want) || code != wantCode {
				t.Errorf("CurveOfLand(%v, %v) = %v, %d, not %v, %d", l, c, got, code, want, wantCode)
			}
		}
	}
}

func TestJoinCurves(t *testing.T) {
	example := curve(-100, 0, 0, 1000, 50, 5000)
	most := curve(0, 0, 10, 1000000000)
	cases := []struct {
		a, b impl.Curve
		want string
		code int64
	}{
		{example, curve(-50, 0, 20, 700, 90, 800), "-50:0 0:1000 20:2800 50:5242", impl.OK},
		{example, example, "-100:0 0:2000 50:10000", impl.OK},
		{example, curve(50, 0, 60, 100), "", impl.ErrClash},
		{example, curve(51, 0, 60, 100), "", impl.ErrClash},
		{example, curve(49, 0, 60, 100), "49:0 50:89", impl.OK},
		{example, curve(-200, 0, -100, 100), "", impl.ErrClash},
		{example, curve(-200, 0, -101, 100), "", impl.ErrClash},
		{example, curve(-200, 0, -99, 100), "-100:0 -99:11", impl.OK},
		{example, curve(10, 0, 20, 5), "10:0 20:805", impl.OK},
		{example, curve(-100, 0, 50, 1), "-100:0 0:1000 50:5001", impl.OK},
		{example, curve(-300, 0, 300, 6), "-100:0 0:1001 50:5001", impl.OK},
		{curve(0, 0, 100, 1), curve(10, 0, 200, 1), "10:0 100:1", impl.OK},
		{evenCurve(6, 0, 2, 1), evenCurve(6, 0, 2, 1), "0:0 2:2 4:4 6:6 8:8 10:10", impl.OK},
		{evenCurve(12, 0, 1, 1), evenCurve(12, 0, 1, 2), "0:0 1:3 2:6 3:9 4:12 5:15 6:18 7:21 8:24 9:27 10:30 11:33", impl.OK},
		{evenCurve(7, 0, 2, 1), evenCurve(7, 1, 2, 1), "1:0 2:1 3:2 4:3 5:4 6:5 7:6 8:7 9:8 10:9 11:10 12:11", impl.OK},
		{evenCurve(8, 0, 2, 1), evenCurve(7, 1, 2, 1), "", impl.ErrFull},
		{evenCurve(12, 0, 2, 1), curve(1, 0, 22, 5), "1:0 2:1 4:2 6:4 8:5 10:7 12:8 14:10 16:11 18:13 20:14 22:16", impl.OK},
		{evenCurve(12, 0, 2, 1), evenCurve(12, 1, 2, 1), "", impl.ErrFull},
		{evenCurve(12, 0, 2, 1), curve(-1, 0, 1, 1, 23, 9), "", impl.ErrFull},
		{most, curve(0, 0, 20, 1), "0:0 10:1000000000", impl.OK},
		{most, curve(0, 0, 20, 2), "", impl.ErrFull},
		{most, curve(0, 0, 10, 1), "", impl.ErrFull},
		{most, most, "", impl.ErrFull},
		{most, curve(1, 0, 10, 100000000), "1:0 10:1000000000", impl.OK},
		{most, curve(1, 0, 10, 100000001), "", impl.ErrFull},
		{curve(-2000, 0, 2000, 1), curve(1999, 0, 2000, 1), "1999:0 2000:2", impl.OK},
	}
	for _, c := range cases {
		for _, both := range [][2]impl.Curve{{c.a, c.b}, {c.b, c.a}} {
			got, code := impl.JoinCurves(both[0], both[1])
			if impl.CurveText(got) != c.want || code != c.code || code != impl.OK && !isZeroCurve(got) {
				t.Errorf("JoinCurves(%v, %v) = %v, %d, not %q, %d", both[0], both[1], got, code, c.want, c.code)
			}
		}
	}
}

// TestJoinedCurves holds pairs of curves against the definition.
func TestJoinedCurves(t *testing.T) {
	curves := slices.Concat(limitCurves(), randomCurves(10, 2, 6, 3), randomCurves(11, 2, 20, 50), randomCurves(12, 1, 90, 80000000))
	for _, a := range curves {
		for _, b := range curves {
			low, high := max(lowestOf(a), lowestOf(b)), min(highestOf(a), highestOf(b))
			var want impl.Curve
			for level := low; level <= high; level++ {
				if slices.Contains(a.Levels, level) || slices.Contains(b.Levels, level) {
					want.Levels = append(want.Levels, level)
					want.Volumes = append(want.Volumes, volumeOn(a, level)+volumeOn(b, level)-volumeOn(a, low)-volumeOn(b, low))
				}
			}
			wantCode := int64(impl.OK)
			if low >= high {
				want, wantCode = impl.Curve{}, impl.ErrClash
			} else if !impl.ValidCurve(want) {
				want, wantCode = impl.Curve{}, impl.ErrFull
			}
			if got, code := impl.JoinCurves(a, b); !impl.SameCurve(got, want) || code != wantCode {
				t.Fatalf("JoinCurves(%v, %v) = %v, %d, not %v, %d", a, b, got, code, want, wantCode)
			}
		}
	}
}

// curveCalls are all functions of chapter 5 with a curve that return a code, with their results as
// texts, and the code at the end.
func curveCalls(c, other impl.Curve, a, b, rate int64) map[string]string {
	return map[string]string{
		"VolumeAt":     fmt.Sprint(impl.VolumeAt(c, a)),
		"LevelAt":      fmt.Sprint(impl.LevelAt(c, a)),
		"AddWater":     fmt.Sprint(impl.AddWater(c, a, b)),
		"SpaceTo":      fmt.Sprint(impl.SpaceTo(c, a, b)),
		"AreaAt":       fmt.Sprint(impl.AreaAt(c, a)),
		"JoinCurves":   fmt.Sprint(impl.JoinCurves(c, other)),
		"JoinedCurves": fmt.Sprint(impl.JoinCurves(other, c)),
		"HoursToEmpty": fmt.Sprint(impl.HoursToEmpty(c, a, b, rate)),
	}
}

// noCurveResults are the zero values of the results of curveCalls.
var noCurveResults = map[string]string{
	"VolumeAt": "0", "LevelAt": "0", "AddWater": "0", "SpaceTo": "0", "AreaAt": "{0 0}", "JoinCurves": "{[] []}", "JoinedCurves": "{[] []}", "HoursToEmpty": "0",
}

// TestInvalidCurves has ErrInvalid come before all other errors.
func TestInvalidCurves(t *testing.T) {
	others := append([]impl.Curve{curve(0, 0, 1, 1), curve(-2000, 0, 2000, 1000000000), evenCurve(12, 0, 1, 1)}, badCurves()...)
	for _, c := range badCurves() {
		for _, other := range others {
			for _, n := range append([]int64{5, -2001, 2001, 1000000001, -1000000001}, extremes...) {
				for _, m := range []int64{n, 0, 5, math.MinInt64, math.MaxInt64} {
					for name, got := range curveCalls(c, other, n, m, m) {
						if got != noCurveResults[name]+" 1" {
							t.Fatalf("%s(%v) with %v, %d and %d: %s", name, c, other, n, m, got)
						}
					}
				}
			}
		}
		if text := impl.CurveText(c); text != "" {
			t.Errorf("CurveText(%v) = %q", c, text)
		}
	}
	for _, l := range badLands() {
		for _, n := range append([]int64{5, -2001, 2001}, extremes...) {
			for _, c := range [][3]int64{{n, n, n}, {0, n, 1}, {-10, 10, n}, {-2000, 2000, 1}, {-10, 10, 10}} {
				if got, code := impl.CurveOfLand(l, c[0], c[1], c[2]); !isZeroCurve(got) || code != impl.ErrInvalid {
					t.Errorf("CurveOfLand(%v, %v) = %v, %d", l, c, got, code)
				}
			}
		}
	}
}

func isZeroCurve(c impl.Curve) bool { return impl.SameCurve(c, impl.Curve{}) }

// curvesText writes a curve by the definition of its text.
func curvesText(c impl.Curve) string {
	var words []string
	for k := range c.Levels {
		words = append(words, fmt.Sprintf("%d:%d", c.Levels[k], c.Volumes[k]))
	}
	return strings.Join(words, " ")
}

// textOfValidCurve writes a curve by the definition of its text, if it is valid.
func textOfValidCurve(c impl.Curve) string {
	if !impl.ValidCurve(c) {
		return "no curve"
	}
	return curvesText(c)
}

func TestCurvesAreReadBack(t *testing.T) {
	for _, c := range allCurves() {
		text := curvesText(c)
		if got := impl.CurveText(c); got != text {
			t.Errorf("CurveText(%v) = %q, not %q", c, got, text)
		}
		if got, ok := impl.ReadCurve(text); !impl.SameCurve(got, c) || !ok {
			t.Errorf("ReadCurve(%q) = %v, %v", text, got, ok)
		}
	}
}

func TestNoTextsOfCurves(t *testing.T) {
	no := []string{
		"0:0", "0:1 5:2", "0:0 0:5", "0:0 5", "0:0 5:0", "0:0 5:", "0:0 :5", "0:0 :", ":", "0 0:5", ":0 5:5", "0: 5:5", "0:0  5:5", " 0:0 5:5", "0:0 5:5 ",
		"0:0\t5:5", "0:0\n5:5", "0:0 5:5\n", "0:0,5:5", "0:05:5", "0:0 5:5:5", "0:0 5::5", "0 :0 5:5", "0: 0 5:5", "00:0 5:5", "0:00 5:5", "0:0 05:5", "0:0 5:05",
		"-0:0 5:5", "0:-0 5:5", "+0:0 5:5", "0:+0 5:5", "0:0 +5:5", "0:0 5:+5", "0:0 5:-5", "5:0 0:5", "0:5 5:0", "0:-1 5:0", "-2001:0 0:1", "0:0 2001:1",
		"0:0 5:1000000001", "x:0 5:5", "0:x 5:5", "0:0 x:5", "0:0 5:x", "0:0 5:5 x", "0:0 5:5 6:6:6", "0;0 5;5", "0=0 5=5", "0.0:0 5:5", "0:0 5:1e3",
		"0:0 5:9223372036854775808", "-9223372036854775809:0 5:5", "0:0 5:18446744073709551617", "0:0 18446744073709551617:1", "0:0 5:\uff15", "0:0\u00a05:5",
		curvesText(evenCurve(13, 0, 1, 1)), curvesText(evenCurve(2000, 0, 1, 1)), curvesText(evenCurve(12, 0, 1, 1)) + " ", strings.Repeat("0:0 ", 5000),
		strings.Repeat(":", 5000), "0:0 5:" + strings.Repeat("9", 5000), "0:0 5:5" + strings.Repeat(" ", 5000),
	}
	checkNotRead(t, no, impl.ReadCurve, isZeroCurve)
}

func TestReadCurveOnChanges(t *testing.T) {
	texts := []string{"-100:0 0:1000 50:5000", "0:0 1:1", "-2000:0 2000:1000000000", "-10:0 -9:10 -1:11 10:100"}
	checkReader(t, texts, impl.ReadCurve, textOfValidCurve, isZeroCurve)
}

// TestCurveFunctionsArePure is promise 1 for all functions of chapter 5 with a curve: they return, change
// nothing, and give the same once more; with an error, everything else is zero.
func TestCurveFunctionsArePure(t *testing.T) {
	other := curve(-50, 0, 20, 700, 90, 800)
	for _, c := range slices.Concat(badCurves(), limitCurves(), randomCurves(13, 2, 5, 5)) {
		levels, sameLevels := guarded(t, c.Levels, spareMark)
		volumes, sameVolumes := guarded(t, c.Volumes, spareMark)
		with := impl.Curve{Levels: levels, Volumes: volumes}
		for _, a := range append([]int64{-2001, -2000, 2000, 2001, 5, -5, 1000000000, 1000000001}, extremes...) {
			for _, b := range append([]int64{-5, 1, 2000, -1000000001}, extremes...) {
				first := curveCalls(with, other, a, b, b)
				if again := curveCalls(copyOfCurve(c), copyOfCurve(other), a, b, b); !maps.Equal(first, again) {
					t.Fatalf("%v, %d, %d: %v is followed by %v", c, a, b, first, again)
				}
				for name, got := range first {
					checkZero(t, name, got, noCurveResults[name])
				}
			}
		}
		if impl.CurveText(with) != impl.CurveText(c) || !impl.SameCurve(with, c) || impl.ValidCurve(with) != impl.ValidCurve(c) {
			t.Fatalf("%v differs from itself", c)
		}
		sameLevels()
		sameVolumes()
	}
}

// TestCurvesAreNew is promise 1 as well: no result shares memory with an argument or with another one.
func TestCurvesAreNew(t *testing.T) {
	for _, c := range append(limitCurves(), randomCurves(14, 2, 9, 9)...) {
		levels, sameLevels := guarded(t, c.Levels, spareMark)
		volumes, sameVolumes := guarded(t, c.Volumes, spareMark)
		with := impl.Curve{Levels: levels, Volumes: volumes}
		unchanged := func() { sameLevels(); sameVolumes() }
		for _, other := range []impl.Curve{with, curve(-2000, 0, 2000, 4000), curve(0, 0, 1, 1)} {
			checkNewCurve(t, func() impl.Curve { joined, _ := impl.JoinCurves(with, other); return joined }, unchanged)
			checkNewCurve(t, func() impl.Curve { joined, _ := impl.JoinCurves(other, with); return joined }, unchanged)
		}
		text := curvesText(c)
		checkNewCurve(t, func() impl.Curve { read, _ := impl.ReadCurve(text); return read }, unchanged)
	}
	for _, text := range oddTexts {
		first, ok := impl.ReadCurve(text)
		if again, okAgain := impl.ReadCurve(strings.Clone(text)); !impl.SameCurve(first, again) || ok != okAgain {
			t.Errorf("ReadCurve of %q differs", text)
		}
	}
}

// checkNewCurve overwrites the lists of a result, with which neither an argument nor its other list may change.
func checkNewCurve(t *testing.T, call func() impl.Curve, unchanged func()) {
	t.Helper()
	checkFresh(t, func() []int64 { return call().Levels }, -spareMark, unchanged)
	checkFresh(t, func() []int64 { return call().Volumes }, -spareMark, unchanged)
	want := call()
	c := copyOfCurve(want)
	overwrite(want.Levels)
	if !slices.Equal(want.Volumes, c.Volumes) {
		t.Fatalf("the lists of %v share memory", c)
	}
}

// TestCurveOfLandIsPure is promise 1 for CurveOfLand.
func TestCurveOfLandIsPure(t *testing.T) {
	lands, numbers := landArguments()
	for _, l := range lands {
		heights, same := guarded(t, l.Heights, spareMark)
		with := impl.Land{Rows: l.Rows, Columns: l.Columns, Heights: heights}
		for i, from := range numbers {
			to, step := numbers[(i+1)%len(numbers)], numbers[(i+5)%len(numbers)]
			for _, c := range [][3]int64{{from, to, step}, {-20, from, to}, {from, 2000, 4000}, {-2000, 2000, from}} {
				got := fmt.Sprint(impl.CurveOfLand(with, c[0], c[1], c[2]))
				if again := fmt.Sprint(impl.CurveOfLand(copyOfLand(l), c[0], c[1], c[2])); got != again {
					t.Fatalf("CurveOfLand(%v, %v): %s is followed by %s", l, c, got, again)
				}
				checkZero(t, "CurveOfLand", got, "{[] []}")
			}
		}
		checkNewCurve(t, func() impl.Curve { c, _ := impl.CurveOfLand(with, -2000, 2000, 400); return c }, same)
		same()
	}
}
