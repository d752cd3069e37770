package tests

import (
	"fmt"
	"math"
	"math/rand"
	"slices"
	"strings"
	"testing"

	"loop.example/g01032/impl"
)

// switches returns switches, each of them told by its levels On and Off.
func switches(levels ...int64) []impl.Switch {
	var list []impl.Switch
	for pair := range slices.Chunk(levels, 2) {
		list = append(list, impl.Switch{On: pair[0], Off: pair[1]})
	}
	return list
}

// exampleSwitch is the switch of the example.
var exampleSwitch = impl.Switch{On: 0, Off: -50}

// ran returns hours with some levels in which the pump runs.
func ran(levels ...int64) []impl.Hour { return hoursWith(true, levels) }

// rested returns hours with some levels in which the pump does not run.
func rested(levels ...int64) []impl.Hour { return hoursWith(false, levels) }

func hoursWith(running bool, levels []int64) []impl.Hour {
	var hours []impl.Hour
	for _, level := range levels {
		hours = append(hours, impl.Hour{Level: level, Running: running})
	}
	return hours
}

// exampleHours are the hours of the example.
func exampleHours() []impl.Hour { return append(ran(-30, -60), rested(-50)...) }

// controlNumbers are numbers at and around all limits of the chapter.
var controlNumbers = append([]int64{2, 5, -5, 11, 12, 13, -49, -50, -51, 199, 200, 201, 1999, 2000, 2001, -1999, -2000, -2001, 999999, 1000000, 1000001, 1000000000, 1000000001}, extremes...)

// isSwitch tells by the definition whether a switch is valid.
func isSwitch(w impl.Switch) bool {
	return w.On >= -2000 && w.On <= 2000 && w.Off >= -2000 && w.Off <= 2000 && w.On > w.Off
}

// switchesWith returns all switches with levels from some numbers: those that are valid, and those that are not.
func switchesWith(numbers []int64) (good, bad []impl.Switch) {
	for _, on := range numbers {
		for _, off := range numbers {
			if w := (impl.Switch{On: on, Off: off}); isSwitch(w) {
				good = append(good, w)
			} else {
				bad = append(bad, w)
			}
		}
	}
	return good, bad
}

// controlArguments are an argument of each kind for the functions of chapter 14.
type controlArguments struct {
	curve        impl.Curve
	choice       impl.Switch
	choices      []impl.Switch
	volume, rate int64
	rates        []int64
	inflows      []int64
	level        int64
	running      bool
	hours        []impl.Hour
}

// exampleControl is the example, with other switches and rates beside that of it.
func exampleControl() controlArguments {
	return controlArguments{
		curve: bowl(), choice: exampleSwitch, choices: switches(0, -50, 100, -100), volume: 1000, rate: 300, rates: []int64{0, 300}, inflows: []int64{0, 0, 100}, level: 20, hours: exampleHours(),
	}
}

// runsBy tells by the definition whether a pump runs.
func runsBy(w impl.Switch, level int64, running bool) bool {
	if running {
		return level > w.Off
	}
	return level >= w.On
}

// controlBy is what happens hour by hour by the definition, and the code.
func controlBy(c impl.Curve, w impl.Switch, volume, rate int64, inflows []int64) ([]impl.Hour, int64) {
	var hours []impl.Hour
	running := false
	for _, inflow := range inflows {
		running = runsBy(w, levelWith(c, volume), running)
		volume += inflow
		if running {
			volume -= min(rate, volume)
		}
		if volume > lastVolume(c) {
			return nil, impl.ErrFlood
		}
		hours = append(hours, impl.Hour{Level: levelWith(c, volume), Running: running})
	}
	return hours, impl.OK
}

// switchingsBy is by the definition how often a pump is switched.
func switchingsBy(hours []impl.Hour) int64 {
	many := int64(0)
	for k, h := range hours {
		if k == 0 && h.Running || k > 0 && h.Running != hours[k-1].Running {
			many++
		}
	}
	return many
}

// keepsBy tells by the definition whether a switch with a rate keeps the level, and with how many switchings.
func (a controlArguments) keepsBy(w impl.Switch, rate int64) (bool, int64) {
	hours, code := controlBy(a.curve, w, a.volume, rate, a.inflows)
	isOver := slices.ContainsFunc(hours, func(h impl.Hour) bool { return h.Level > a.level })
	return code == impl.OK && !isOver, switchingsBy(hours)
}

// fewestBy is by the definition the choice with the fewest switchings, their number, and the code.
func (a controlArguments) fewestBy() (int64, int64, int64) {
	best, fewest, code := 0, int64(0), int64(impl.ErrNotFound)
	for k, w := range a.choices {
		keeps, many := a.keepsBy(w, a.rate)
		if keeps && (code != impl.OK || many < fewest) {
			best, fewest, code = k, many, impl.OK
		}
	}
	return int64(best), fewest, code
}

// enoughBy is by the definition the first rate that keeps the level, and the code.
func (a controlArguments) enoughBy() (int64, int64) {
	for k, rate := range a.rates {
		if keeps, _ := a.keepsBy(a.choice, rate); keeps {
			return int64(k), impl.OK
		}
	}
	return 0, impl.ErrNotFound
}

func TestControlConstants(t *testing.T) {
	if impl.MaxControlHours != 200 || impl.MaxPumpRate != 1000000 || impl.MaxChoices != 12 {
		t.Error("a limit is wrong")
	}
}

func TestValidSwitch(t *testing.T) {
	good, bad := switchesWith(controlNumbers)
	checkValidity(t, impl.ValidSwitch, good, bad)
	checkValidity(t, impl.ValidSwitch, switches(0, -50, 1, 0, -1999, -2000, 2000, 1999, 2000, -2000), switches(0, 0, -50, 0, 2000, 2000, -2000, -2000, 2001, 2000, -2000, -2001, 2001, -2001))
}

func TestRunsNow(t *testing.T) {
	cases := []struct {
		choice        impl.Switch
		level         int64
		running, want bool
		code          int64
	}{
		// At least On, at most Off, and what is between both of them.
		{exampleSwitch, 0, false, true, impl.OK},
		{exampleSwitch, 0, true, true, impl.OK},
		{exampleSwitch, 1, false, true, impl.OK},
		{exampleSwitch, 2000, false, true, impl.OK},
		{exampleSwitch, 2000, true, true, impl.OK},
		{exampleSwitch, -1, false, false, impl.OK},
		{exampleSwitch, -1, true, true, impl.OK},
		{exampleSwitch, -25, false, false, impl.OK},
		{exampleSwitch, -25, true, true, impl.OK},
		{exampleSwitch, -49, false, false, impl.OK},
		{exampleSwitch, -49, true, true, impl.OK},
		{exampleSwitch, -50, false, false, impl.OK},
		{exampleSwitch, -50, true, false, impl.OK},
		{exampleSwitch, -51, false, false, impl.OK},
		{exampleSwitch, -51, true, false, impl.OK},
		{exampleSwitch, -2000, false, false, impl.OK},
		{exampleSwitch, -2000, true, false, impl.OK},
		// Nothing is between both levels.
		{impl.Switch{On: 1, Off: 0}, 1, false, true, impl.OK},
		{impl.Switch{On: 1, Off: 0}, 1, true, true, impl.OK},
		{impl.Switch{On: 1, Off: 0}, 0, false, false, impl.OK},
		{impl.Switch{On: 1, Off: 0}, 0, true, false, impl.OK},
		// Nothing but the limits is outside of them.
		{impl.Switch{On: 2000, Off: -2000}, 2000, false, true, impl.OK},
		{impl.Switch{On: 2000, Off: -2000}, 1999, false, false, impl.OK},
		{impl.Switch{On: 2000, Off: -2000}, -1999, true, true, impl.OK},
		{impl.Switch{On: 2000, Off: -2000}, -2000, true, false, impl.OK},
		{exampleSwitch, 2001, false, false, impl.ErrRange},
		{exampleSwitch, 2001, true, false, impl.ErrRange},
		{exampleSwitch, -2001, true, false, impl.ErrRange},
		{exampleSwitch, math.MaxInt64, true, false, impl.ErrRange},
		{exampleSwitch, math.MinInt64, false, false, impl.ErrRange},
		{impl.Switch{}, 0, true, false, impl.ErrInvalid},
		{impl.Switch{}, 2001, true, false, impl.ErrInvalid},
		{impl.Switch{On: -50, Off: 0}, 5, false, false, impl.ErrInvalid},
		{impl.Switch{On: 2001, Off: 0}, 5, true, false, impl.ErrInvalid},
	}
	for _, v := range cases {
		if got, code := impl.RunsNow(v.choice, v.level, v.running); got != v.want || code != v.code {
			t.Errorf("RunsNow(%v, %d, %v) = %v, %d", v.choice, v.level, v.running, got, code)
		}
	}
}

// TestRunsNowByDefinition is promise 15 for a single decision: all switches with small levels, and those at the limits.
func TestRunsNowByDefinition(t *testing.T) {
	levels := append(countingUp(-4, 4), -2000, -1999, 1999, 2000)
	good, _ := switchesWith(levels)
	for _, w := range good {
		for _, level := range levels {
			for _, running := range []bool{false, true} {
				got, code := impl.RunsNow(w, level, running)
				if got != runsBy(w, level, running) || code != impl.OK {
					t.Fatalf("RunsNow(%v, %d, %v) = %v, %d", w, level, running, got, code)
				}
				if isBetween := level > w.Off && level < w.On; isBetween && got != running {
					t.Fatalf("between both levels of %v, at %d, a pump is switched from %v", w, level, running)
				}
			}
		}
	}
}

func TestRunControl(t *testing.T) {
	never, always := impl.Switch{On: 101, Off: -50}, impl.Switch{On: 0, Off: -101}
	cases := []struct {
		choice       impl.Switch
		volume, rate int64
		inflows      []int64
		want         []impl.Hour
		code         int64
	}{
		{exampleSwitch, 1000, 300, []int64{0, 0, 100}, exampleHours(), impl.OK},
		{exampleSwitch, 1000, 300, nil, nil, impl.OK},
		{exampleSwitch, 0, 0, []int64{}, nil, impl.OK},
		{exampleSwitch, 2000, 0, nil, nil, impl.OK},
		// On is just reached, and just not; the level of a volume is the least one that has it.
		{exampleSwitch, 1000, 300, []int64{0}, ran(-30), impl.OK},
		{exampleSwitch, 991, 300, []int64{0}, ran(-30), impl.OK},
		{exampleSwitch, 990, 300, []int64{0}, rested(-1), impl.OK},
		{exampleSwitch, 1010, 300, []int64{0}, ran(-29), impl.OK},
		{exampleSwitch, 2000, 300, []int64{0}, ran(70), impl.OK},
		{exampleSwitch, 0, 300, []int64{0}, rested(-100), impl.OK},
		// Off is just reached, and just not.
		{exampleSwitch, 1000, 500, []int64{0, 0}, append(ran(-50), rested(-50)...), impl.OK},
		{exampleSwitch, 1000, 499, []int64{0, 0}, ran(-49, -99), impl.OK},
		{exampleSwitch, 1000, 501, []int64{0, 0}, append(ran(-50), rested(-50)...), impl.OK},
		{exampleSwitch, 1000, 510, []int64{0, 0}, append(ran(-51), rested(-51)...), impl.OK},
		// Between both levels, the pump runs on while the water falls, and rests on while it rises.
		{exampleSwitch, 1000, 100, filled(6, 0), append(ran(-10, -20, -30, -40, -50), rested(-50)...), impl.OK},
		{exampleSwitch, 500, 100, append(filled(5, 100), 0), append(rested(-40, -30, -20, -10, 0), ran(-10)...), impl.OK},
		{exampleSwitch, 1000, 100, append(filled(6, 0), 100, 100, 100, 100, 100, 0), slices.Concat(ran(-10, -20, -30, -40, -50), rested(-50, -40, -30, -20, -10, 0), ran(-10)), impl.OK},
		{exampleSwitch, 1000, 99, filled(7, 0), append(ran(-9, -19, -29, -39, -49, -59), rested(-59)...), impl.OK},
		{exampleSwitch, 1000, 200, []int64{0, 150, 250, 0, 0, 200}, append(ran(-20, -25, -20, -40, -60), rested(-40)...), impl.OK},
		{exampleSwitch, 990, 300, filled(4, 0), rested(-1, -1, -1, -1), impl.OK},
		{exampleSwitch, 990, 300, []int64{5, 5, 0}, append(rested(0), ran(-30, -60)...), impl.OK},
		// What comes in in an hour is decided on in the next one.
		{exampleSwitch, 0, 300, []int64{1500, 0}, append(rested(50), ran(20)...), impl.OK},
		{exampleSwitch, 1000, 600, []int64{0, 1000, 0}, slices.Concat(ran(-60), rested(40), ran(-20)), impl.OK},
		// First the inflow is added, then the rate is taken away, but not more than there is.
		{exampleSwitch, 1000, 1000, []int64{0}, ran(-100), impl.OK},
		{exampleSwitch, 1000, 999, []int64{0}, ran(-99), impl.OK},
		{exampleSwitch, 1000, 1001, []int64{0}, ran(-100), impl.OK},
		{exampleSwitch, 1000, 1000000, []int64{100, 100}, append(ran(-100), rested(-90)...), impl.OK},
		{exampleSwitch, 1000, 1100, []int64{100}, ran(-100), impl.OK},
		{exampleSwitch, 1000, 1100, []int64{101}, ran(-99), impl.OK},
		{always, 1000, 1000, []int64{0, 0, 50, 1010}, ran(-100, -100, -100, -99), impl.OK},
		{always, 990, 1000, []int64{0}, rested(-1), impl.OK},
		// The curve is full, and more than full, at the end of an hour; within the hour there may be more.
		{never, 2000, 300, []int64{0}, rested(100), impl.OK},
		{never, 2000, 300, []int64{1}, nil, impl.ErrFlood},
		{never, 1000, 300, []int64{1000}, rested(100), impl.OK},
		{never, 1000, 300, []int64{1001}, nil, impl.ErrFlood},
		{never, 1000, 300, []int64{1000, 0, 1}, nil, impl.ErrFlood},
		{never, 1000, 300, []int64{1001, 0, 0}, nil, impl.ErrFlood},
		{exampleSwitch, 2000, 500, []int64{500}, ran(100), impl.OK},
		{exampleSwitch, 2000, 499, []int64{500}, nil, impl.ErrFlood},
		{exampleSwitch, 2000, 500, []int64{501}, nil, impl.ErrFlood},
		{exampleSwitch, 2000, 1000000, []int64{1000000}, ran(100), impl.OK},
		{exampleSwitch, 0, 1000000, []int64{1000000}, nil, impl.ErrFlood},
		// A pump may run and lift nothing.
		{exampleSwitch, 1000, 0, []int64{0, 10, 0}, ran(0, 1, 1), impl.OK},
		{impl.Switch{On: -99, Off: -100}, 0, 7, []int64{7, 7, 0, 0}, slices.Concat(rested(-99), ran(-99, -100), rested(-100)), impl.OK},
		{impl.Switch{On: 2000, Off: -2000}, 2000, 7, []int64{0}, rested(100), impl.OK},
		{exampleSwitch, 500, 7, filled(200, 0), slices.Repeat(rested(-50), 200), impl.OK},
		{exampleSwitch, 500, 7, filled(201, 0), nil, impl.ErrRange},
		{exampleSwitch, 500, 7, filled(5000, 1000000), nil, impl.ErrRange},
		{exampleSwitch, 500, 7, []int64{0, -1}, nil, impl.ErrRange},
		{exampleSwitch, 500, 7, []int64{1000001}, nil, impl.ErrRange},
		// What is out of range comes before a flood, wherever it is.
		{exampleSwitch, 500, 7, []int64{1000000, 1000001}, nil, impl.ErrRange},
		{exampleSwitch, 500, 7, []int64{1000000, math.MinInt64}, nil, impl.ErrRange},
		{exampleSwitch, 500, -1, nil, nil, impl.ErrRange},
		{exampleSwitch, 500, 1000001, nil, nil, impl.ErrRange},
		{exampleSwitch, 500, 1000000, nil, nil, impl.OK},
		{exampleSwitch, -1, 7, nil, nil, impl.ErrRange},
		{exampleSwitch, 2001, 7, nil, nil, impl.ErrRange},
		{exampleSwitch, 2001, 7, []int64{0}, nil, impl.ErrRange},
		{exampleSwitch, math.MaxInt64, 7, []int64{1000000}, nil, impl.ErrRange},
		{impl.Switch{}, 500, 7, nil, nil, impl.ErrInvalid},
		{impl.Switch{On: -50, Off: 0}, -1, -1, []int64{-1}, nil, impl.ErrInvalid},
		{impl.Switch{On: 2001, Off: 0}, 500, 7, filled(201, 0), nil, impl.ErrInvalid},
	}
	for _, v := range cases {
		if got, code := impl.RunControl(bowl(), v.choice, v.volume, v.rate, v.inflows); !slices.Equal(got, v.want) || code != v.code {
			t.Errorf("RunControl(%v, %d, %d, %v) = %v, %d", v.choice, v.volume, v.rate, v.inflows, got, code)
		}
	}
	for _, c := range badCurves() {
		for _, w := range []impl.Switch{exampleSwitch, {}} {
			if got, code := impl.RunControl(c, w, 0, 0, nil); len(got) != 0 || code != impl.ErrInvalid {
				t.Errorf("RunControl(%v, %v) = %v, %d", c, w, got, code)
			}
			if got, code := impl.RunControl(c, w, -1, -1, []int64{-1}); len(got) != 0 || code != impl.ErrInvalid {
				t.Errorf("RunControl(%v, %v) out of range = %v, %d", c, w, got, code)
			}
		}
	}
}

func TestRunControlOnSteepCurves(t *testing.T) {
	steep := curve(-2000, 0, 2000, 1000000000)
	w := impl.Switch{On: -1000, Off: -1990}
	if got, code := impl.RunControl(steep, w, 1000000000, 1000000, []int64{1000000, 1000000, 0}); !slices.Equal(got, ran(2000, 2000, 1996)) || code != impl.OK {
		t.Errorf("the fullest curve has %v, %d", got, code)
	}
	if got, code := impl.RunControl(steep, w, 1000000000, 999999, []int64{1000000}); len(got) != 0 || code != impl.ErrFlood {
		t.Errorf("a curve that is too full has %v, %d", got, code)
	}
	if got, code := impl.RunControl(steep, w, 0, 1000000, filled(200, 1000000)); len(got) != 200 || got[199] != (impl.Hour{Level: -1200}) || code != impl.OK {
		t.Errorf("with the most water in all hours, there is %v, %d", got, code)
	}
	// Many levels have the same volume: of them, it is the lowest one by which the switch decides.
	flat := curve(0, 0, 10, 1)
	if got, code := impl.RunControl(flat, impl.Switch{On: 1, Off: 0}, 0, 1, []int64{1, 0, 0, 1}); !slices.Equal(got, slices.Concat(rested(10), ran(0), rested(0, 10))) || code != impl.OK {
		t.Errorf("on a flat curve, there is %v, %d", got, code)
	}
}

// checkControl is promise 15 for a run: it is that of the definition, and in each hour the pump runs as the switch decides.
func checkControl(t *testing.T, a controlArguments) int64 {
	t.Helper()
	got, code := impl.RunControl(a.curve, a.choice, a.volume, a.rate, a.inflows)
	if want, wantCode := controlBy(a.curve, a.choice, a.volume, a.rate, a.inflows); !slices.Equal(got, want) || code != wantCode {
		t.Fatalf("RunControl(%v, %v, %d, %d, %v) = %v, %d, not %v, %d", a.curve, a.choice, a.volume, a.rate, a.inflows, got, code, want, wantCode)
	}
	before := impl.Hour{Level: levelWith(a.curve, a.volume)}
	for k, h := range got {
		if runs, runsCode := impl.RunsNow(a.choice, before.Level, before.Running); h.Running != runs || runsCode != impl.OK {
			t.Fatalf("RunControl(%v, %v, %d, %d, %v) = %v, but in the hour %d: %v, %d", a.curve, a.choice, a.volume, a.rate, a.inflows, got, k, runs, runsCode)
		}
		before = h
	}
	return code
}

// TestShortControlByDefinition is promise 15 for all runs of up to 3 hours of small waters with all switches around them.
func TestShortControlByDefinition(t *testing.T) {
	good, _ := switchesWith(countingUp(-1, 7))
	for _, c := range []impl.Curve{curve(0, 0, 6, 6), curve(0, 0, 2, 1, 6, 6)} {
		for _, inflows := range shortLists(3, 0, 3) {
			for _, w := range good {
				for rate := range int64(4) {
					for volume := range int64(7) {
						checkControl(t, controlArguments{curve: c, choice: w, volume: volume, rate: rate, inflows: inflows})
					}
				}
			}
		}
	}
}

// randomSwitch returns a switch with levels around those of a curve.
func randomSwitch(source *rand.Rand, c impl.Curve) impl.Switch {
	low, high := max(-2000, lowestOf(c)-3), min(2000, highestOf(c)+3)
	off := low + source.Int63n(high-low)
	return impl.Switch{On: off + 1 + source.Int63n(high-off), Off: off}
}

// randomControl returns arguments for a curve, with many hours.
func randomControl(source *rand.Rand, c impl.Curve, many int) controlArguments {
	last := lastVolume(c)
	most := min(1000000, 1+last/int64(1+source.Intn(12)))
	a := controlArguments{curve: c, choice: randomSwitch(source, c), volume: source.Int63n(last + 1), rate: source.Int63n(most + 1)}
	for range many {
		a.inflows = append(a.inflows, source.Int63n(most+1)*source.Int63n(2))
	}
	for range source.Intn(13) {
		a.choices, a.rates = append(a.choices, randomSwitch(source, c)), append(a.rates, source.Int63n(most+1))
	}
	a.hours, _ = controlBy(c, a.choice, a.volume, a.rate, a.inflows)
	a.level = lowestOf(c) + source.Int63n(highestOf(c)-lowestOf(c)+1)
	return a
}

// TestLongControlByDefinition is promise 15 for runs of up to 200 hours on curves of all kinds.
func TestLongControlByDefinition(t *testing.T) {
	source := rand.New(rand.NewSource(51))
	codes, switchings := map[int64]int{}, 0
	for round, c := range slices.Repeat(breachCurves(), 20) {
		a := randomControl(source, c, []int{1, 2, 5, 12, 40, 199, 200}[round%7])
		codes[checkControl(t, a)]++
		many, code := impl.CountSwitches(a.hours)
		if many > 2 && code == impl.OK {
			switchings++
		}
	}
	if codes[impl.OK] < 200 || codes[impl.ErrFlood] < 200 || switchings < 100 {
		t.Errorf("the tests are one-sided: %v, and %d with several switchings", codes, switchings)
	}
}

func TestSameHours(t *testing.T) {
	different := [][]impl.Hour{
		nil, rested(0), ran(0), rested(0, 0), ran(0, 0), append(ran(0), rested(0)...), append(rested(0), ran(0)...), exampleHours(), exampleHours()[:2], exampleHours()[1:], rested(1), rested(-1),
		slices.Repeat(ran(5), 201), ran(2001), rested(math.MaxInt64), rested(math.MinInt64), rested(1, 2), rested(2, 1),
	}
	checkDiffer(t, different, slices.Clone[[]impl.Hour], impl.SameHours)
	if !impl.SameHours(nil, []impl.Hour{}) || !impl.SameHours([]impl.Hour{}, nil) {
		t.Error("nil and empty lists are told to differ")
	}
}

func TestHoursFunctions(t *testing.T) {
	cases := []struct {
		hours                         []impl.Hour
		switchings, running           int64
		highest, code, codeForHighest int64
	}{
		{exampleHours(), 2, 2, 0, impl.OK, impl.OK},
		{nil, 0, 0, 0, impl.OK, impl.ErrNotFound},
		{[]impl.Hour{}, 0, 0, 0, impl.OK, impl.ErrNotFound},
		{rested(5), 0, 0, 0, impl.OK, impl.OK},
		{ran(5), 1, 1, 0, impl.OK, impl.OK},
		{rested(5, 5), 0, 0, 0, impl.OK, impl.OK},
		{ran(5, 5), 1, 2, 0, impl.OK, impl.OK},
		{append(rested(5), ran(5)...), 1, 1, 0, impl.OK, impl.OK},
		{append(ran(5), rested(5)...), 2, 1, 0, impl.OK, impl.OK},
		{slices.Concat(rested(4), ran(6), rested(6)), 2, 1, 1, impl.OK, impl.OK},
		{slices.Concat(ran(-7), rested(-6), ran(-5)), 3, 2, 2, impl.OK, impl.OK},
		{slices.Concat(ran(3), rested(1), ran(2), rested(3)), 4, 2, 0, impl.OK, impl.OK},
		{slices.Concat(rested(1), ran(9, 9), rested(9), ran(8)), 3, 3, 1, impl.OK, impl.OK},
		{append(ran(-2000), rested(2000)...), 2, 1, 1, impl.OK, impl.OK},
		{ran(2000, -2000), 1, 2, 0, impl.OK, impl.OK},
		{rested(-2000, -2000), 0, 0, 0, impl.OK, impl.OK},
		{slices.Repeat(ran(7), 200), 1, 200, 0, impl.OK, impl.OK},
		{slices.Repeat(rested(7), 200), 0, 0, 0, impl.OK, impl.OK},
		{slices.Repeat(append(ran(7), rested(8)...), 100), 200, 100, 1, impl.OK, impl.OK},
		{append(slices.Repeat(ran(7), 199), rested(8)...), 2, 199, 199, impl.OK, impl.OK},
		{slices.Repeat(ran(7), 201), 0, 0, 0, impl.ErrRange, impl.ErrRange},
		{slices.Repeat(rested(7), 5000), 0, 0, 0, impl.ErrRange, impl.ErrRange},
		{ran(2001), 0, 0, 0, impl.ErrRange, impl.ErrRange},
		{rested(-2001), 0, 0, 0, impl.ErrRange, impl.ErrRange},
		{ran(0, 0, 2001), 0, 0, 0, impl.ErrRange, impl.ErrRange},
		{ran(-2001, 0, 0), 0, 0, 0, impl.ErrRange, impl.ErrRange},
		{rested(0, math.MaxInt64, 0), 0, 0, 0, impl.ErrRange, impl.ErrRange},
		{rested(math.MinInt64), 0, 0, 0, impl.ErrRange, impl.ErrRange},
	}
	for _, v := range cases {
		if got, code := impl.CountSwitches(v.hours); got != v.switchings || code != v.code {
			t.Errorf("CountSwitches(%v) = %d, %d", v.hours, got, code)
		}
		if got, code := impl.HoursRunning(v.hours); got != v.running || code != v.code {
			t.Errorf("HoursRunning(%v) = %d, %d", v.hours, got, code)
		}
		if got, code := impl.HighestHour(v.hours); got != v.highest || code != v.codeForHighest {
			t.Errorf("HighestHour(%v) = %d, %d", v.hours, got, code)
		}
	}
}

// TestControlHoursByDefinition has all lists of up to 6 hours with few levels.
func TestControlHoursByDefinition(t *testing.T) {
	for _, numbers := range shortLists(6, 0, 3) {
		var hours []impl.Hour
		running, highest := int64(0), 0
		for k, n := range numbers {
			hours = append(hours, impl.Hour{Level: n / 2, Running: n%2 == 1})
			running += n % 2
			if n/2 > hours[highest].Level {
				highest = k
			}
		}
		if got, code := impl.CountSwitches(hours); got != switchingsBy(hours) || code != impl.OK {
			t.Fatalf("CountSwitches(%v) = %d, %d", hours, got, code)
		}
		if got, code := impl.HoursRunning(hours); got != running || code != impl.OK {
			t.Fatalf("HoursRunning(%v) = %d, %d", hours, got, code)
		}
		if got, code := impl.HighestHour(hours); len(hours) > 0 && (got != int64(highest) || code != impl.OK) {
			t.Fatalf("HighestHour(%v) = %d, %d", hours, got, code)
		}
	}
}

func TestKeepsBelow(t *testing.T) {
	cases := []struct {
		choice       impl.Switch
		volume, rate int64
		inflows      []int64
		level        int64
		want         bool
		code         int64
	}{
		{exampleSwitch, 1000, 300, []int64{0, 0, 100}, 20, true, impl.OK},
		{exampleSwitch, 1000, 300, []int64{0, 0, 100}, -30, true, impl.OK},
		{exampleSwitch, 1000, 300, []int64{0, 0, 100}, -31, false, impl.OK},
		{exampleSwitch, 1000, 300, []int64{0, 0, 100}, 2000, true, impl.OK},
		{exampleSwitch, 1000, 300, []int64{0, 0, 100}, -2000, false, impl.OK},
		// It is the last hour that has the highest level.
		{exampleSwitch, 500, 300, []int64{0, 100, 100}, -30, true, impl.OK},
		{exampleSwitch, 500, 300, []int64{0, 100, 100}, -31, false, impl.OK},
		// The level in front of the first hour is that of no hour.
		{exampleSwitch, 2000, 2000, []int64{0}, -100, true, impl.OK},
		{exampleSwitch, 2000, 2000, []int64{0}, -101, false, impl.OK},
		{exampleSwitch, 2000, 300, nil, -2000, true, impl.OK},
		// A flood keeps no level, not even one above the curve.
		{exampleSwitch, 2000, 499, []int64{500}, 100, false, impl.OK},
		{exampleSwitch, 2000, 499, []int64{500}, 2000, false, impl.OK},
		{exampleSwitch, 2000, 500, []int64{500}, 100, true, impl.OK},
		{exampleSwitch, 2000, 500, []int64{500}, 99, false, impl.OK},
		{exampleSwitch, 1000, 300, nil, 2001, false, impl.ErrRange},
		{exampleSwitch, 1000, 300, nil, -2001, false, impl.ErrRange},
		{exampleSwitch, 1000, 1000001, nil, 0, false, impl.ErrRange},
		{exampleSwitch, 1000, -1, nil, 0, false, impl.ErrRange},
		{exampleSwitch, 2001, 300, nil, 0, false, impl.ErrRange},
		{exampleSwitch, -1, 300, nil, 0, false, impl.ErrRange},
		{exampleSwitch, 1000, 300, []int64{-1}, 0, false, impl.ErrRange},
		{exampleSwitch, 1000, 300, []int64{1000001}, 0, false, impl.ErrRange},
		{exampleSwitch, 1000, 300, filled(201, 0), 0, false, impl.ErrRange},
		{exampleSwitch, 1000, 300, filled(200, 0), 0, true, impl.OK},
		{impl.Switch{}, 1000, 300, nil, 2001, false, impl.ErrInvalid},
		{impl.Switch{On: 5, Off: 5}, 1000, 300, nil, 0, false, impl.ErrInvalid},
	}
	for _, v := range cases {
		if got, code := impl.KeepsBelow(bowl(), v.choice, v.volume, v.rate, v.inflows, v.level); got != v.want || code != v.code {
			t.Errorf("KeepsBelow(%v, %d, %d, %v, %d) = %v, %d", v.choice, v.volume, v.rate, v.inflows, v.level, got, code)
		}
	}
	if got, code := impl.KeepsBelow(impl.Curve{}, exampleSwitch, -1, -1, nil, 2001); got || code != impl.ErrInvalid {
		t.Errorf("KeepsBelow without a curve = %v, %d", got, code)
	}
}

func TestFewestSwitches(t *testing.T) {
	calm := []int64{0, 0, 100}
	cases := []struct {
		choices             []impl.Switch
		inflows             []int64
		level               int64
		index, fewest, code int64
	}{
		// The first one is switched twice, the second one never.
		{switches(0, -50, 100, -100), calm, 20, 1, 0, impl.OK},
		{switches(0, -50, 100, -100), calm, 10, 1, 0, impl.OK},
		{switches(0, -50, 100, -100), calm, 9, 0, 2, impl.OK},
		{switches(100, -100, 0, -50), calm, 10, 0, 0, impl.OK},
		{switches(100, -100, 0, -50), calm, 9, 1, 2, impl.OK},
		{switches(0, -50, 100, -100), calm, -30, 0, 2, impl.OK},
		{switches(0, -50, 100, -100), calm, -31, 0, 0, impl.ErrNotFound},
		// Of several with as many switchings, the first one.
		{switches(0, -50, -1, -50), calm, 20, 0, 2, impl.OK},
		{switches(0, -50, 0, -60), calm, 20, 0, 2, impl.OK},
		{switches(0, -50, 0, -61), calm, 20, 1, 1, impl.OK},
		{switches(0, -61, 0, -62, 0, -50), calm, 20, 0, 1, impl.OK},
		{switches(0, -50, 0, -62, 0, -61), calm, 20, 1, 1, impl.OK},
		{switches(0, -50, 0, -50, 0, -50), calm, 20, 0, 2, impl.OK},
		{switches(100, -100, 0, -50, 0, -61), calm, 0, 2, 1, impl.OK},
		{switches(100, -100, 0, -50, 0, -61, 99, 98), calm, 10, 0, 0, impl.OK},
		// One that is flooded keeps no level, although it is never switched.
		{switches(100, -100, 0, -50), []int64{1001}, 2000, 1, 1, impl.OK},
		{switches(100, -100, 0, -50), []int64{1000}, 2000, 0, 0, impl.OK},
		{switches(100, -100, 0, -50), []int64{1301}, 2000, 0, 0, impl.ErrNotFound},
		{switches(100, -100, 0, -50), []int64{1300}, 2000, 1, 1, impl.OK},
		{nil, calm, 20, 0, 0, impl.ErrNotFound},
		{[]impl.Switch{}, nil, 20, 0, 0, impl.ErrNotFound},
		{switches(0, -50, 100, -100), nil, -2000, 0, 0, impl.OK},
		{slices.Repeat(switches(0, -50), 12), calm, 20, 0, 2, impl.OK},
		{append(slices.Repeat(switches(0, -50), 11), switches(100, -100)...), calm, 20, 11, 0, impl.OK},
		{slices.Repeat(switches(0, -50), 13), calm, 20, 0, 0, impl.ErrRange},
		{switches(0, -50), calm, 2001, 0, 0, impl.ErrRange},
		{switches(0, -50), calm, -2001, 0, 0, impl.ErrRange},
		{nil, calm, 2001, 0, 0, impl.ErrRange},
		{nil, []int64{-1}, 20, 0, 0, impl.ErrRange},
		{switches(0, -50), filled(201, 0), 20, 0, 0, impl.ErrRange},
		{switches(0, -50), []int64{1000001}, 20, 0, 0, impl.ErrRange},
		{switches(0, -50, 0, 0), calm, 20, 0, 0, impl.ErrInvalid},
		{switches(0, 0, 0, -50), calm, 2001, 0, 0, impl.ErrInvalid},
		{append(slices.Repeat(switches(0, -50), 12), switches(2001, 0)...), []int64{-1}, 2001, 0, 0, impl.ErrInvalid},
	}
	for _, v := range cases {
		if index, fewest, code := impl.FewestSwitches(bowl(), v.choices, 1000, 300, v.inflows, v.level); index != v.index || fewest != v.fewest || code != v.code {
			t.Errorf("FewestSwitches(%v, %v, %d) = %d, %d, %d", v.choices, v.inflows, v.level, index, fewest, code)
		}
	}
	for _, v := range [][3]int64{{-1, 300, 2}, {2001, 300, 2}, {1000, -1, 2}, {1000, 1000001, 2}, {2000, 1000000, 3}, {0, 0, 3}} {
		if index, fewest, code := impl.FewestSwitches(bowl(), nil, v[0], v[1], calm, 20); index != 0 || fewest != 0 || code != v[2] {
			t.Errorf("FewestSwitches of none with %d and %d = %d, %d, %d", v[0], v[1], index, fewest, code)
		}
	}
	if index, fewest, code := impl.FewestSwitches(impl.Curve{}, nil, -1, -1, nil, 2001); index != 0 || fewest != 0 || code != impl.ErrInvalid {
		t.Errorf("FewestSwitches without a curve = %d, %d, %d", index, fewest, code)
	}
}

func TestEnoughRate(t *testing.T) {
	cases := []struct {
		rates, inflows    []int64
		level, want, code int64
	}{
		{[]int64{0, 300}, []int64{0, 0, 100}, -10, 1, impl.OK},
		{[]int64{0, 300}, []int64{0, 0, 100}, 9, 1, impl.OK},
		{[]int64{0, 300}, []int64{0, 0, 100}, 10, 0, impl.OK},
		{[]int64{0, 300}, []int64{0, 0, 100}, -30, 1, impl.OK},
		{[]int64{0, 300}, []int64{0, 0, 100}, -31, 0, impl.ErrNotFound},
		{[]int64{300, 0}, []int64{0, 0, 100}, 10, 0, impl.OK},
		// A greater rate may be worse, since the pump is switched off in front of the hour with much inflow.
		{[]int64{600, 300, 400}, []int64{0, 1000}, 30, 2, impl.OK},
		{[]int64{600, 300, 400}, []int64{0, 1000}, 20, 2, impl.OK},
		{[]int64{600, 300, 400}, []int64{0, 1000}, 19, 0, impl.ErrNotFound},
		{[]int64{600, 300, 400}, []int64{0, 1000}, 40, 0, impl.OK},
		{[]int64{300, 1000, 400}, []int64{0, 1000}, 30, 1, impl.OK},
		{[]int64{300, 300, 400, 400}, []int64{0, 1000}, 30, 2, impl.OK},
		// A rate with which there is a flood keeps no level.
		{[]int64{299, 300}, []int64{1300}, 2000, 1, impl.OK},
		{[]int64{299, 298}, []int64{1300}, 2000, 0, impl.ErrNotFound},
		{nil, []int64{0}, 2000, 0, impl.ErrNotFound},
		{[]int64{}, nil, 0, 0, impl.ErrNotFound},
		{[]int64{7, 8}, nil, -2000, 0, impl.OK},
		{append(filled(11, 0), 300), []int64{0}, -30, 11, impl.OK},
		{append(filled(12, 0), 300), []int64{0}, -30, 0, impl.ErrRange},
		{filled(13, 300), []int64{0}, -30, 0, impl.ErrRange},
		{[]int64{1000000}, []int64{0}, -100, 0, impl.OK},
		{[]int64{1000001}, []int64{0}, -100, 0, impl.ErrRange},
		{[]int64{300, -1}, []int64{0}, -30, 0, impl.ErrRange},
		{[]int64{300, math.MinInt64}, []int64{0}, -30, 0, impl.ErrRange},
		{[]int64{300}, []int64{1000001}, -30, 0, impl.ErrRange},
		{[]int64{300}, []int64{-1}, -30, 0, impl.ErrRange},
		{[]int64{300}, filled(201, 0), -30, 0, impl.ErrRange},
		{[]int64{300}, []int64{0}, 2001, 0, impl.ErrRange},
		{[]int64{300}, []int64{0}, -2001, 0, impl.ErrRange},
		{nil, []int64{0}, 2001, 0, impl.ErrRange},
	}
	for _, v := range cases {
		if got, code := impl.EnoughRate(bowl(), exampleSwitch, 1000, v.rates, v.inflows, v.level); got != v.want || code != v.code {
			t.Errorf("EnoughRate(%v, %v, %d) = %d, %d", v.rates, v.inflows, v.level, got, code)
		}
	}
	for _, rates := range [][]int64{nil, {300}, {-1}, filled(13, 0)} {
		for _, level := range []int64{0, 2001} {
			if got, code := impl.EnoughRate(bowl(), impl.Switch{}, 1000, rates, nil, level); got != 0 || code != impl.ErrInvalid {
				t.Errorf("EnoughRate of %v without a switch = %d, %d", rates, got, code)
			}
			if got, code := impl.EnoughRate(impl.Curve{}, exampleSwitch, 0, rates, nil, level); got != 0 || code != impl.ErrInvalid {
				t.Errorf("EnoughRate of %v without a curve = %d, %d", rates, got, code)
			}
		}
		for _, volume := range []int64{-1, 2001} {
			if got, code := impl.EnoughRate(bowl(), exampleSwitch, volume, rates, nil, 0); got != 0 || code != impl.ErrRange {
				t.Errorf("EnoughRate of %v with the volume %d = %d, %d", rates, volume, got, code)
			}
		}
	}
}

// checkKeeping is promise 15 for the choice of a switch, and holds that of a rate against the definition; it returns both codes.
func checkKeeping(t *testing.T, a controlArguments) (int64, int64) {
	t.Helper()
	keeps, code := impl.KeepsBelow(a.curve, a.choice, a.volume, a.rate, a.inflows, a.level)
	if want, _ := a.keepsBy(a.choice, a.rate); keeps != want || code != impl.OK {
		t.Fatalf("KeepsBelow for %v = %v, %d", a, keeps, code)
	}
	index, fewest, fewestCode := impl.FewestSwitches(a.curve, a.choices, a.volume, a.rate, a.inflows, a.level)
	wantIndex, wantFewest, wantCode := a.fewestBy()
	if index != wantIndex || fewest != wantFewest || fewestCode != wantCode {
		t.Fatalf("FewestSwitches for %v = %d, %d, %d, not %d, %d, %d", a, index, fewest, fewestCode, wantIndex, wantFewest, wantCode)
	}
	rate, rateCode := impl.EnoughRate(a.curve, a.choice, a.volume, a.rates, a.inflows, a.level)
	if want, wantCode := a.enoughBy(); rate != want || rateCode != wantCode {
		t.Fatalf("EnoughRate for %v = %d, %d, not %d, %d", a, rate, rateCode, want, wantCode)
	}
	for k, w := range a.choices {
		a.checkNoFewer(t, int64(k), w, index, fewest, fewestCode)
	}
	return fewestCode, rateCode
}

// checkNoFewer has a choice either not keep the level, or need no fewer switchings than the one that is told.
func (a controlArguments) checkNoFewer(t *testing.T, k int64, w impl.Switch, told, fewest, code int64) {
	t.Helper()
	keeps, keepsCode := impl.KeepsBelow(a.curve, w, a.volume, a.rate, a.inflows, a.level)
	if keepsCode != impl.OK || keeps && code != impl.OK || !keeps && code == impl.OK && k == told {
		t.Fatalf("KeepsBelow for the choice %d of %v = %v, %d, but %d is told, %d", k, a, keeps, keepsCode, told, code)
	}
	if !keeps {
		return
	}
	hours, runCode := impl.RunControl(a.curve, w, a.volume, a.rate, a.inflows)
	many, countCode := impl.CountSwitches(hours)
	if runCode != impl.OK || countCode != impl.OK || many < fewest || many == fewest && k < told || k == told && many != fewest {
		t.Fatalf("the choice %d of %v has %v, %d, with %d switchings, %d, but %d is told with %d", k, a, hours, runCode, many, countCode, told, fewest)
	}
}

// TestKeepingByDefinition is promise 15 for up to 12 choices, with limits that are reached exactly and passed by 1.
func TestKeepingByDefinition(t *testing.T) {
	source := rand.New(rand.NewSource(52))
	codes, rateCodes := map[int64]int{}, map[int64]int{}
	for round, c := range slices.Repeat(breachCurves(), 8) {
		a := randomControl(source, c, []int{0, 1, 3, 8, 20, 50, 200}[round%7])
		levels := []int64{a.level, lowestOf(c), highestOf(c), 2000, -2000}
		for _, h := range a.hours[:min(3, len(a.hours))] {
			levels = append(levels, h.Level, max(-2000, h.Level-1))
		}
		for _, level := range levels {
			a.level = level
			code, rateCode := checkKeeping(t, a)
			codes[code]++
			rateCodes[rateCode]++
		}
	}
	for _, m := range []map[int64]int{codes, rateCodes} {
		if m[impl.OK] < 500 || m[impl.ErrNotFound] < 500 {
			t.Errorf("the tests are one-sided: %v", m)
		}
	}
}

// TestShortKeepingByDefinition has all short runs of a small water, so that many choices have as many switchings.
func TestShortKeepingByDefinition(t *testing.T) {
	source := rand.New(rand.NewSource(53))
	good, _ := switchesWith(countingUp(-1, 6))
	for _, inflows := range shortLists(4, 0, 2) {
		for volume := range int64(6) {
			a := controlArguments{curve: curve(0, 0, 5, 5), volume: volume, rate: source.Int63n(4), inflows: inflows, rates: []int64{source.Int63n(4), source.Int63n(4), source.Int63n(4)}}
			for range 1 + source.Intn(12) {
				a.choices = append(a.choices, good[source.Intn(len(good))])
			}
			a.choice = a.choices[0]
			for level := int64(-1); level < 6; level++ {
				a.level = level
				checkKeeping(t, a)
			}
		}
	}
}

// switchesText writes a switch by the definition of its text.
func switchesText(w impl.Switch) string { return fmt.Sprintf("on %d off %d", w.On, w.Off) }

// textOfValidSwitch writes a switch by the definition of its text, if it has one.
func textOfValidSwitch(w impl.Switch) string {
	if !isSwitch(w) {
		return "no switch"
	}
	return switchesText(w)
}

func isZeroSwitch(w impl.Switch) bool { return w == impl.Switch{} }

func TestSwitchesAreReadBack(t *testing.T) {
	if got := impl.SwitchText(exampleSwitch); got != "on 0 off -50" {
		t.Errorf("SwitchText(%v) = %q", exampleSwitch, got)
	}
	good, bad := switchesWith(controlNumbers)
	checkReadBack(t, good, bad, switchesText, impl.SwitchText, impl.ReadSwitch)
	small, none := switchesWith(countingUp(-12, 12))
	checkReadBack(t, small, none, switchesText, impl.SwitchText, impl.ReadSwitch)
}

func TestNoTextsOfSwitches(t *testing.T) {
	checkNotRead(t, []string{
		"on", "on ", "on 0", "on 0 off", "on 0 off ", "off -50", "off -50 on 0", "0 off -50", "0 -50", "on 0 -50", "on off", "on  off ", "on off -50", "on  off -50", "onoff", "on on 0 off -50", "on 0 off off -50",
		" on 0 off -50", "on 0 off -50 ", "on  0 off -50", "on 0  off -50", "on 0 off  -50", "on\t0 off -50", "on 0 off -50\n", "on 0\noff -50", "on0 off -50", "on 0off -50", "on 0 off-50", "on 0 off -50 off -51",
		"on 0 off -50 0", "on 0 off -50 on 0 off -50", "On 0 off -50", "on 0 Off -50", "ON 0 OFF -50", "an 0 off -50", "on 0 of -50", "on: 0 off: -50", "on 0, off -50", "on 0 off -50.",
		"on 0 off 0", "on -50 off 0", "on 2000 off 2000", "on 2001 off 0", "on 0 off -2001", "on 2001 off -2001", "on 00 off -50", "on -0 off -50", "on +1 off -50", "on 0 off -050", "on 0 off --50", "on 1 off -0",
		"on 1 off +0", "on 1 off 00", "on 1.0 off 0", "on 1e2 off 0", "on x off -50", "on 0 off x", "on 1 off x", "on 18446744073709551616 off -50", "on 1 off 18446744073709551616", "on １ off 0", "on\u00a01 off 0",
		"on 0 off -50\x00", "\x00on 0 off -50", "on " + strings.Repeat("1", 5000) + " off 0", strings.Repeat("on 0 off -50", 500),
	}, impl.ReadSwitch, isZeroSwitch)
}

func TestReadSwitchOnChanges(t *testing.T) {
	texts := []string{"on 0 off -50", "on 2000 off -2000", "on 1 off 0", "on -1999 off -2000", "on 100 off 99"}
	checkReader(t, texts, impl.ReadSwitch, textOfValidSwitch, isZeroSwitch)
}

// calls are all functions of chapter 14 that return a code, with their results as texts, and the code at the end.
func (a controlArguments) calls() map[string]string {
	return map[string]string{
		"RunsNow":        fmt.Sprint(impl.RunsNow(a.choice, a.level, a.running)),
		"RunControl":     fmt.Sprint(impl.RunControl(a.curve, a.choice, a.volume, a.rate, a.inflows)),
		"CountSwitches":  fmt.Sprint(impl.CountSwitches(a.hours)),
		"HoursRunning":   fmt.Sprint(impl.HoursRunning(a.hours)),
		"HighestHour":    fmt.Sprint(impl.HighestHour(a.hours)),
		"KeepsBelow":     fmt.Sprint(impl.KeepsBelow(a.curve, a.choice, a.volume, a.rate, a.inflows, a.level)),
		"FewestSwitches": fmt.Sprint(impl.FewestSwitches(a.curve, a.choices, a.volume, a.rate, a.inflows, a.level)),
		"EnoughRate":     fmt.Sprint(impl.EnoughRate(a.curve, a.choice, a.volume, a.rates, a.inflows, a.level)),
	}
}

// noControlResults are the zero values of the results of the calls.
var noControlResults = map[string]string{
	"RunsNow": "false", "RunControl": "[]", "CountSwitches": "0", "HoursRunning": "0", "HighestHour": "0", "KeepsBelow": "false", "FewestSwitches": "0 0", "EnoughRate": "0",
}

// otherControlCodes are the errors of the calls other than ErrInvalid and ErrRange, with a blank behind each of them.
var otherControlCodes = map[string]string{"RunControl": "10 ", "HighestHour": "3 ", "FewestSwitches": "3 ", "EnoughRate": "3 "}

// isValid tells by the definition of which calls the arguments are valid.
func (a controlArguments) isValid() map[string]bool {
	isCurve, isChoice := impl.ValidCurve(a.curve), isSwitch(a.choice)
	areChoices := !slices.ContainsFunc(a.choices, func(w impl.Switch) bool { return !isSwitch(w) })
	return map[string]bool{
		"RunsNow": isChoice, "RunControl": isCurve && isChoice, "CountSwitches": true, "HoursRunning": true, "HighestHour": true, "KeepsBelow": isCurve && isChoice,
		"FewestSwitches": isCurve && areChoices, "EnoughRate": isCurve && isChoice,
	}
}

// isInRange tells by the definition of which calls the arguments, which are valid, are in range.
func (a controlArguments) isInRange() map[string]bool {
	isLevel := func(n int64) bool { return n >= -2000 && n <= 2000 }
	isNoRate := func(n int64) bool { return n < 0 || n > 1000000 }
	isRun := impl.ValidCurve(a.curve) && a.volume >= 0 && a.volume <= lastVolume(a.curve) && len(a.inflows) <= 200 && !slices.ContainsFunc(a.inflows, isNoRate)
	isRate, areRates := !isNoRate(a.rate), len(a.rates) <= 12 && !slices.ContainsFunc(a.rates, isNoRate)
	areHours := len(a.hours) <= 200 && !slices.ContainsFunc(a.hours, func(h impl.Hour) bool { return !isLevel(h.Level) })
	return map[string]bool{
		"RunsNow": isLevel(a.level), "RunControl": isRun && isRate, "CountSwitches": areHours, "HoursRunning": areHours, "HighestHour": areHours, "KeepsBelow": isRun && isRate && isLevel(a.level),
		"FewestSwitches": isRun && isRate && isLevel(a.level) && len(a.choices) <= 12, "EnoughRate": isRun && areRates && isLevel(a.level),
	}
}

// checkCodes has the first errors come just where they should, and other ones only where there may be some.
func (a controlArguments) checkCodes(t *testing.T) {
	t.Helper()
	isValid, isInRange := a.isValid(), a.isInRange()
	for name, got := range a.calls() {
		checkErrors(t, name, a, got, noControlResults[name], isValid[name], isInRange[name])
		if code := codeIn(got); !strings.Contains(" 0 1 2 "+otherControlCodes[name], " "+code+" ") {
			t.Fatalf("%s with %v: %s", name, a, got)
		}
	}
}

// changedControl returns the example with a number as each of its numbers, alone and beside others that are out of range.
func changedControl(n int64) []controlArguments {
	var all []controlArguments
	for place := range 9 {
		a := exampleControl()
		switch place {
		case 0:
			a.volume = n
		case 1:
			a.rate = n
		case 2:
			a.rates[1] = n
		case 3:
			a.inflows[2] = n
		case 4:
			a.level = n
		case 5:
			a.choice.On, a.choices[1].On = n, n
		case 6:
			a.choice.Off, a.choices[0].Off = n, n
		case 7:
			a.hours[1].Level = n
		case 8:
			a.volume, a.rate, a.level, a.choice.Off, a.choices[1].Off = n, n, n, n, n
		}
		all = append(all, a)
		a.level, a.inflows = 2001, filled(201, 0)
		all = append(all, a)
	}
	return all
}

// TestControlCodes looks at all functions with good and bad arguments of each kind, alone and together.
func TestControlCodes(t *testing.T) {
	exampleControl().checkCodes(t)
	controlArguments{}.checkCodes(t)
	controlArguments{curve: bowl(), choice: exampleSwitch}.checkCodes(t)
	for _, c := range slices.Concat([]impl.Curve{bowl(), deepBowl(), evenCurve(12, 0, 1, 1)}, badCurves()) {
		for _, n := range controlNumbers {
			for _, a := range changedControl(n) {
				a.curve = c
				a.checkCodes(t)
			}
		}
	}
	for _, many := range []int{0, 1, 11, 12, 13, 199, 200, 201, 5000} {
		for _, n := range controlNumbers {
			for _, running := range []bool{false, true} {
				a := exampleControl()
				a.curve, a.running = deepBowl(), running
				a.choices, a.rates, a.hours = slices.Repeat([]impl.Switch{{On: 5, Off: n}}, many), filled(many, n), slices.Repeat([]impl.Hour{{Level: n, Running: running}}, many)
				a.checkCodes(t)
				a.inflows = filled(many, n)
				a.checkCodes(t)
			}
		}
	}
}

// TestControlCodesByPlace puts numbers around the limits at each place of a list.
func TestControlCodesByPlace(t *testing.T) {
	for _, many := range []int{1, 2, 12, 13, 200, 201} {
		for k := range many {
			for _, n := range controlNumbers {
				a := controlArguments{curve: deepBowl(), choice: exampleSwitch, volume: 20000000, rate: 7, level: 5, hours: slices.Repeat(ran(3), many), inflows: filled(many, 9)}
				a.hours[k].Level, a.inflows[k] = n, n
				a.checkCodes(t)
				if many <= 13 {
					a.inflows, a.rates, a.choices = filled(3, 9), filled(many, 11), slices.Repeat(switches(1, -1), many)
					a.rates[k], a.choices[k].On = n, n
					a.checkCodes(t)
				}
			}
		}
	}
}

var (
	// markSwitch and markHour fill the unused capacity of lists, where a write would show.
	markSwitch = impl.Switch{On: spareMark, Off: -spareMark}
	markHour   = impl.Hour{Level: spareMark, Running: true}
)

// withGuards returns the arguments with marks in the unused capacity of their lists, and a function that fails if one of
// the lists, or one of the marks, has been changed.
func (a controlArguments) withGuards(t *testing.T) (controlArguments, func()) {
	t.Helper()
	var unchanged [6]func()
	a.curve.Levels, unchanged[0] = guarded(t, a.curve.Levels, spareMark)
	a.curve.Volumes, unchanged[1] = guarded(t, a.curve.Volumes, spareMark)
	a.choices, unchanged[2] = guarded(t, a.choices, markSwitch)
	a.rates, unchanged[3] = guarded(t, a.rates, spareMark)
	a.inflows, unchanged[4] = guarded(t, a.inflows, spareMark)
	a.hours, unchanged[5] = guarded(t, a.hours, markHour)
	return a, together(t, unchanged[:]...)
}

// withCopies returns the arguments with copies of their lists, which have no unused capacity.
func (a controlArguments) withCopies() controlArguments {
	a.curve = copyOfCurve(a.curve)
	a.choices, a.hours = slices.Clip(slices.Clone(a.choices)), slices.Clip(slices.Clone(a.hours))
	a.rates, a.inflows = slices.Clip(slices.Clone(a.rates)), slices.Clip(slices.Clone(a.inflows))
	return a
}

// controlRuns are arguments of all kinds.
func controlRuns() []controlArguments {
	source := rand.New(rand.NewSource(54))
	var runs []controlArguments
	for _, n := range controlNumbers {
		runs = append(runs, changedControl(n)...)
	}
	for _, c := range badCurves() {
		a := exampleControl()
		a.curve = c
		runs = append(runs, a)
	}
	for round, c := range slices.Concat(breachCurves(), allCurves()) {
		runs = append(runs, randomControl(source, c, []int{0, 1, 2, 5, 30, 199, 200, 201}[round%8]))
	}
	return runs
}

// TestControlFunctionsArePure is promise 1 for all functions of chapter 14: they return, change nothing, and give the same
// once more.
func TestControlFunctionsArePure(t *testing.T) {
	for _, a := range controlRuns() {
		checkCallsPure(t, a)
		a.checkCodes(t)
		with, unchanged := a.withGuards(t)
		isValid, text, isSame := impl.ValidSwitch(with.choice), impl.SwitchText(with.choice), impl.SameHours(with.hours, a.hours)
		unchanged()
		if impl.ValidSwitch(a.choice) != isValid || impl.SwitchText(a.choice) != text || !isSame || !impl.SameHours(a.hours, with.hours) {
			t.Fatalf("%v is told to be valid: %v, with the text %q, and to be the same: %v", a, isValid, text, isSame)
		}
	}
	for _, text := range append(slices.Clone(oddTexts), "on 0 off -50") {
		first, ok := impl.ReadSwitch(text)
		if again, okAgain := impl.ReadSwitch(strings.Clone(text)); first != again || ok != okAgain {
			t.Errorf("ReadSwitch of %q differs", text)
		}
	}
}

// TestControlResultsAreNew is promise 1 as well: no result shares memory with an argument or with another one.
func TestControlResultsAreNew(t *testing.T) {
	for _, a := range controlRuns() {
		with, unchanged := a.withGuards(t)
		checkFresh(t, func() []impl.Hour {
			hours, _ := impl.RunControl(with.curve, with.choice, with.volume, with.rate, with.inflows)
			return hours
		}, markHour, unchanged)
	}
}

// TestOneListForRatesAndInflows gives the same memory to a function as rates and as inflows, and as a curve.
func TestOneListForRatesAndInflows(t *testing.T) {
	for _, list := range append(oddLists(), []int64{0, 2, 0}, []int64{0, 1, 2, 1000}, countingUp(0, 11), countingUp(0, 12), filled(200, 1), filled(201, 2), []int64{0, 1000000, 1000001}) {
		for _, c := range []impl.Curve{bowl(), {Levels: list, Volumes: list}} {
			for _, w := range []impl.Switch{exampleSwitch, {On: 1, Off: 0}, {}} {
				a := controlArguments{curve: c, choice: w, choices: switches(0, -50, 2, 1), volume: 1, rate: 2, rates: list, inflows: list, level: 2}
				checkOneList(t, a, list)
				a.checkCodes(t)
			}
		}
	}
}
