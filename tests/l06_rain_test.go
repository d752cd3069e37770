package tests

import (
	"fmt"
	"maps"
	"math"
	"math/big"
	"math/rand"
	"slices"
	"strings"
	"testing"

	"loop.example/g01032/impl"
)

// alternating returns a list of many numbers, a and b in turn.
func alternating(many int, a, b int64) []int64 {
	list := filled(many, a)
	for i := 1; i < many; i += 2 {
		list[i] = b
	}
	return list
}

// smallRain are all lists of 1 to 6 days with rain of 0, 1 and 3.
func smallRain() [][]int64 {
	var lists [][]int64
	for _, text := range textsOver("\x00\x01\x03", 6)[1:] {
		var list []int64
		for i := range text {
			list = append(list, int64(text[i]))
		}
		lists = append(lists, list)
	}
	return lists
}

// limitRain are lists that reach a limit, or have no dry day, or no other ones, or dry days at an end.
func limitRain() [][]int64 {
	return [][]int64{
		{0}, {1}, {3000}, {0, 0}, {3000, 3000}, {0, 3000}, {3000, 0}, {0, 0, 30, 50, 0}, {0, 7, 0}, {7, 0, 7}, {5, 5, 5}, {1, 2, 3}, {3, 2, 1},
		filled(119, 0), filled(120, 0), filled(119, 3000), filled(120, 3000), filled(120, 1), countingUp(0, 119), countingUp(2881, 3000),
		alternating(120, 0, 3000), alternating(120, 3000, 0), alternating(119, 0, 1), alternating(119, 1, 0),
		append(filled(119, 0), 1), append([]int64{1}, filled(119, 0)...), append(filled(60, 0), filled(60, 9)...), append(filled(60, 9), filled(60, 0)...),
		slices.Concat(filled(40, 0), []int64{1}, filled(38, 0), []int64{2}, filled(40, 0)),
	}
}

// randomRain are lists of many lengths, always the same ones: some with much rain, some with many dry days.
func randomRain() [][]int64 {
	source := rand.New(rand.NewSource(6))
	var lists [][]int64
	for _, wet := range []int64{1, 3, 10} {
		for _, most := range []int64{1, 4, 300, 3000} {
			for range 12 {
				list := make([]int64, 1+source.Intn(120))
				for day := range list {
					if source.Int63n(10) < wet {
						list[day] = source.Int63n(most + 1)
					}
				}
				lists = append(lists, list)
			}
		}
	}
	return lists
}

func allRain() [][]int64 { return slices.Concat(smallRain(), limitRain(), randomRain()) }

// badRain are lists that are no rain.
func badRain() [][]int64 {
	lists := [][]int64{
		nil, {}, {-1}, {3001}, {0, -1}, {-1, 0}, {0, 3001}, {3001, 0}, {5, -1, 5}, {5, 3001, 5}, {3001, -1},
		filled(121, 0), filled(121, 3000), filled(10000, 1), append(filled(119, 0), -1), append(filled(119, 0), 3001), append(filled(120, 0), 3001),
		{math.MaxInt64, math.MaxInt64, 2}, {math.MinInt64, math.MinInt64}, {math.MinInt64, math.MaxInt64, 1},
	}
	for _, n := range extremes {
		if n < 0 || n > 1 {
			lists = append(lists, []int64{n}, []int64{0, n}, []int64{n, 0})
		}
	}
	return lists
}

func totalOf(list []int64) int64 {
	total := int64(0)
	for _, n := range list {
		total += n
	}
	return total
}

func TestValidRain(t *testing.T) {
	if impl.MaxRainDays != 120 || impl.MaxRain != 3000 {
		t.Error("the limits are wrong")
	}
	checkValidity(t, impl.ValidRain, allRain(), badRain())
	for many := range 130 {
		if got := impl.ValidRain(filled(many, 5)); got != (many >= 1 && many <= 120) {
			t.Errorf("%d days: %v", many, got)
		}
	}
}

// TestValidRainByDay puts numbers around the limits at each day.
func TestValidRainByDay(t *testing.T) {
	for _, many := range []int{1, 2, 3, 120} {
		for day := range many {
			for _, n := range append([]int64{-1, 0, 1, 2999, 3000, 3001}, extremes...) {
				list := filled(many, 7)
				list[day] = n
				if got := impl.ValidRain(list); got != (n >= 0 && n <= 3000) {
					t.Errorf("ValidRain with %d at day %d of %d = %v", n, day, many, got)
				}
			}
		}
	}
}

func TestRainSums(t *testing.T) {
	list := []int64{0, 0, 30, 50, 0}
	checkLists(t, "RainSums", impl.RainSums, []numberCase{
		{list, 1, list, impl.OK},
		{list, 2, []int64{0, 30, 80, 50}, impl.OK},
		{list, 3, []int64{30, 80, 80}, impl.OK},
		{list, 4, []int64{80, 80}, impl.OK},
		{list, 5, []int64{80}, impl.OK},
		{list, 6, nil, impl.ErrNotFound},
		{list, 120, nil, impl.ErrNotFound},
		{list, 121, nil, impl.ErrRange},
		{list, 0, nil, impl.ErrRange},
		{list, -1, nil, impl.ErrRange},
		{list, math.MinInt64, nil, impl.ErrRange},
		{list, math.MaxInt64, nil, impl.ErrRange},
		{[]int64{0}, 1, []int64{0}, impl.OK},
		{[]int64{3000}, 1, []int64{3000}, impl.OK},
		{[]int64{3000}, 2, nil, impl.ErrNotFound},
		{filled(120, 0), 60, filled(61, 0), impl.OK},
		{filled(120, 3000), 120, []int64{360000}, impl.OK},
		{filled(120, 3000), 119, []int64{357000, 357000}, impl.OK},
		{filled(120, 3000), 121, nil, impl.ErrRange},
		{filled(119, 3000), 120, nil, impl.ErrNotFound},
		{filled(121, 0), 1, nil, impl.ErrInvalid},
		{nil, 1, nil, impl.ErrInvalid},
		{nil, 0, nil, impl.ErrInvalid},
		{[]int64{}, 121, nil, impl.ErrInvalid},
		{[]int64{-1}, 2, nil, impl.ErrInvalid},
		{[]int64{3001}, 1, nil, impl.ErrInvalid},
	})
}

func TestWettestDays(t *testing.T) {
	list := []int64{0, 0, 30, 50, 0}
	cases := []struct {
		list             []int64
		days             int64
		first, sum, code int64
	}{
		{list, 1, 3, 50, impl.OK},
		{list, 2, 2, 80, impl.OK},
		{list, 3, 1, 80, impl.OK},
		{list, 4, 0, 80, impl.OK},
		{list, 5, 0, 80, impl.OK},
		{list, 6, 0, 0, impl.ErrNotFound},
		{list, 120, 0, 0, impl.ErrNotFound},
		{list, 121, 0, 0, impl.ErrRange},
		{list, 0, 0, 0, impl.ErrRange},
		{list, -1, 0, 0, impl.ErrRange},
		{[]int64{0}, 1, 0, 0, impl.OK},
		{[]int64{0}, 2, 0, 0, impl.ErrNotFound},
		{[]int64{0, 0, 0}, 2, 0, 0, impl.OK},
		{[]int64{4, 1, 5, 4, 1}, 2, 2, 9, impl.OK},
		{[]int64{4, 5, 0, 5, 4}, 2, 0, 9, impl.OK},
		{[]int64{4, 4, 5, 4, 4}, 2, 1, 9, impl.OK},
		{append(filled(119, 0), 1), 1, 119, 1, impl.OK},
		{append(filled(119, 0), 1), 120, 0, 1, impl.OK},
		{append(filled(119, 0), 1), 119, 1, 1, impl.OK},
		{filled(120, 3000), 120, 0, 360000, impl.OK},
		{filled(120, 3000), 1, 0, 3000, impl.OK},
		{nil, 1, 0, 0, impl.ErrInvalid},
		{[]int64{}, 0, 0, 0, impl.ErrInvalid},
		{filled(121, 0), 1, 0, 0, impl.ErrInvalid},
		{[]int64{-1}, 2, 0, 0, impl.ErrInvalid},
		{[]int64{3001}, 121, 0, 0, impl.ErrInvalid},
	}
	for _, c := range cases {
		if first, sum, code := impl.WettestDays(c.list, c.days); first != c.first || sum != c.sum || code != c.code {
			t.Errorf("WettestDays(%v, %d) = %d, %d, %d", c.list, c.days, first, sum, code)
		}
	}
}

// TestWettestWindow is promise 7 for windows: each sum is that of its days, the told one is the greatest,
// and no window before has it as well.
func TestWettestWindow(t *testing.T) {
	for _, list := range allRain() {
		for days := 1; days <= len(list); days++ {
			sums, code := impl.RainSums(list, int64(days))
			first, most, mostCode := impl.WettestDays(list, int64(days))
			if len(sums) != len(list)-days+1 || code != impl.OK || mostCode != impl.OK {
				t.Fatalf("%d days of %v: %v, %d, and %d", days, list, sums, code, mostCode)
			}
			if first < 0 || first > int64(len(list)-days) || totalOf(list[first:first+int64(days)]) != most {
				t.Fatalf("WettestDays(%v, %d) = %d, %d", list, days, first, most)
			}
			for day, sum := range sums {
				if sum != totalOf(list[day:day+days]) {
					t.Fatalf("RainSums(%v, %d) = %v: wrong at %d", list, days, sums, day)
				}
				if sum > most || sum == most && int64(day) < first {
					t.Fatalf("WettestDays(%v, %d) = %d, %d: the window %d comes before it", list, days, first, most, day)
				}
			}
		}
	}
}

func TestRunoffOf(t *testing.T) {
	list := []int64{0, 0, 30, 50, 0}
	cases := []struct {
		list             []int64
		room, loss, held int64
		runoff           []int64
		end, code        int64
	}{
		{list, 40, 10, 5, []int64{0, 0, 0, 30, 0}, 30, impl.OK},
		{list, 70, 10, 5, []int64{0, 0, 0, 0, 0}, 60, impl.OK},
		{list, 69, 10, 5, []int64{0, 0, 0, 1, 0}, 59, impl.OK},
		{list, 30, 0, 30, []int64{0, 0, 30, 50, 0}, 30, impl.OK},
		{list, 30, 0, 31, nil, 0, impl.ErrRange},
		{list, 0, 0, 0, []int64{0, 0, 30, 50, 0}, 0, impl.OK},
		{list, 0, 3000, 0, []int64{0, 0, 30, 50, 0}, 0, impl.OK},
		{list, 100, 3000, 100, []int64{0, 0, 0, 0, 0}, 0, impl.OK},
		{[]int64{0}, 100000, 0, 100000, []int64{0}, 100000, impl.OK},
		{[]int64{0}, 100000, 3000, 100000, []int64{0}, 97000, impl.OK},
		{[]int64{0}, 5, 4, 5, []int64{0}, 1, impl.OK},
		{[]int64{0}, 5, 5, 5, []int64{0}, 0, impl.OK},
		{[]int64{0}, 5, 6, 5, []int64{0}, 0, impl.OK},
		{[]int64{3000}, 100000, 3000, 100000, []int64{0}, 100000, impl.OK},
		{[]int64{3000}, 100000, 2999, 100000, []int64{1}, 100000, impl.OK},
		{[]int64{3000}, 100000, 0, 100000, []int64{3000}, 100000, impl.OK},
		{[]int64{8}, 10, 5, 3, []int64{0}, 8, impl.OK},
		{[]int64{8, 0, 8}, 10, 5, 9, []int64{2, 0, 0}, 8, impl.OK},
		{[]int64{8, 8, 0, 8}, 10, 5, 9, []int64{2, 3, 0, 0}, 8, impl.OK},
		{filled(120, 0), 9, 0, 9, filled(120, 0), 9, impl.OK},
		{filled(120, 3000), 0, 0, 0, filled(120, 3000), 0, impl.OK},
		{[]int64{0}, -1, 0, 0, nil, 0, impl.ErrRange},
		{[]int64{0}, 100001, 0, 0, nil, 0, impl.ErrRange},
		{[]int64{0}, 5, -1, 0, nil, 0, impl.ErrRange},
		{[]int64{0}, 5, 3001, 0, nil, 0, impl.ErrRange},
		{[]int64{0}, 5, 0, -1, nil, 0, impl.ErrRange},
		{[]int64{0}, 5, 0, 6, nil, 0, impl.ErrRange},
		{[]int64{0}, 0, 0, 1, nil, 0, impl.ErrRange},
		{[]int64{0}, 100000, 0, 100001, nil, 0, impl.ErrRange},
		{[]int64{0}, 100001, 0, 100001, nil, 0, impl.ErrRange},
		{[]int64{0}, -1, 0, -1, nil, 0, impl.ErrRange},
		{[]int64{0}, math.MaxInt64, 0, math.MaxInt64, nil, 0, impl.ErrRange},
		{[]int64{0}, 5, math.MinInt64, 0, nil, 0, impl.ErrRange},
		{nil, 40, 10, 5, nil, 0, impl.ErrInvalid},
		{[]int64{}, -1, -1, -1, nil, 0, impl.ErrInvalid},
		{filled(121, 0), 40, 10, 50, nil, 0, impl.ErrInvalid},
		{[]int64{-1}, 40, 10, 5, nil, 0, impl.ErrInvalid},
		{[]int64{3001}, 40, 3001, 5, nil, 0, impl.ErrInvalid},
	}
	for _, c := range cases {
		runoff, end, code := impl.RunoffOf(c.list, c.room, c.loss, c.held)
		if !slices.Equal(runoff, c.runoff) || end != c.end || code != c.code {
			t.Errorf("RunoffOf(%v, %d, %d, %d) = %v, %d, %d", c.list, c.room, c.loss, c.held, runoff, end, code)
		}
	}
}

func TestRoomFor(t *testing.T) {
	list := []int64{0, 0, 30, 50, 0}
	cases := []struct {
		list                   []int64
		loss, held, room, code int64
	}{
		{list, 10, 5, 70, impl.OK},
		{list, 0, 0, 80, impl.OK},
		{list, 0, 5, 85, impl.OK},
		{list, 30, 0, 50, impl.OK},
		{list, 29, 0, 51, impl.OK},
		{list, 10, 70, 110, impl.OK},
		{list, 50, 81, 81, impl.OK},
		{list, 3000, 51, 51, impl.OK},
		{list, 3000, 50, 50, impl.OK},
		{list, 3000, 49, 50, impl.OK},
		{[]int64{0}, 0, 0, 0, impl.OK},
		{[]int64{0}, 0, 7, 7, impl.OK},
		{[]int64{0}, 7, 7, 7, impl.OK},
		{[]int64{7}, 7, 7, 7, impl.OK},
		{[]int64{7}, 6, 7, 8, impl.OK},
		{[]int64{7}, 8, 7, 7, impl.OK},
		{[]int64{3000}, 0, 100000, 103000, impl.OK},
		{filled(120, 3000), 0, 100000, 460000, impl.OK},
		{filled(120, 3000), 3000, 100000, 100000, impl.OK},
		{filled(120, 3000), 3000, 0, 3000, impl.OK},
		{filled(120, 3000), 2999, 0, 3119, impl.OK},
		{filled(120, 0), 0, 100000, 100000, impl.OK},
		{filled(120, 0), 3000, 100000, 100000, impl.OK},
		{list, -1, 0, 0, impl.ErrRange},
		{list, 3001, 0, 0, impl.ErrRange},
		{list, 0, -1, 0, impl.ErrRange},
		{list, 0, 100001, 0, impl.ErrRange},
		{list, math.MinInt64, 0, 0, impl.ErrRange},
		{list, 0, math.MaxInt64, 0, impl.ErrRange},
		{nil, 0, 0, 0, impl.ErrInvalid},
		{[]int64{}, -1, 0, 0, impl.ErrInvalid},
		{filled(121, 0), 0, 0, 0, impl.ErrInvalid},
		{[]int64{-1}, 0, 100001, 0, impl.ErrInvalid},
		{[]int64{3001}, 0, 0, 0, impl.ErrInvalid},
	}
	for _, c := range cases {
		if room, code := impl.RoomFor(c.list, c.loss, c.held); room != c.room || code != c.code {
			t.Errorf("RoomFor(%v, %d, %d) = %d, %d, not %d, %d", c.list, c.loss, c.held, room, code, c.room, c.code)
		}
	}
}

// runoffBy tells by the definition what runs off each day, what the soil holds at the end, and what it has lost.
func runoffBy(list []int64, room, loss, held int64) ([]int64, int64, int64) {
	var runoff []int64
	lost := int64(0)
	for _, rain := range list {
		gone := loss
		if gone > held {
			gone = held
		}
		lost += gone
		held = held - gone + rain
		over := int64(0)
		if held > room {
			over = held - room
		}
		held -= over
		runoff = append(runoff, over)
	}
	return runoff, held, lost
}

// TestNothingRunsOffWithEnoughRoom is promise 7 for the soil: with the told room, and with more, nothing
// runs off; with less, something does; and no water is lost or made.
func TestNothingRunsOffWithEnoughRoom(t *testing.T) {
	for _, list := range allRain() {
		for _, loss := range []int64{0, 1, 2, 150, 3000} {
			for _, held := range []int64{0, 1, 4, 2000, 100000} {
				enough, code := impl.RoomFor(list, loss, held)
				if enough < held || code != impl.OK {
					t.Fatalf("RoomFor(%v, %d, %d) = %d, %d", list, loss, held, enough, code)
				}
				for _, room := range []int64{held, held + 1, enough - 2, enough - 1, enough, enough + 1, 100000} {
					if room >= held {
						checkRunoff(t, list, room, loss, held, enough)
					}
				}
			}
		}
	}
}

// checkRunoff holds runoff against the definition, and what runs off against the room that is enough,
// which may be more than RunoffOf takes.
func checkRunoff(t *testing.T, list []int64, room, loss, held, enough int64) {
	t.Helper()
	want, wantEnd, lost := runoffBy(list, room, loss, held)
	if (totalOf(want) == 0) != (room >= enough) {
		t.Fatalf("RoomFor(%v, %d, %d) = %d, but with %d, %v runs off", list, loss, held, enough, room, want)
	}
	if room > 100000 {
		return
	}
	runoff, end, code := impl.RunoffOf(list, room, loss, held)
	if !slices.Equal(runoff, want) || end != wantEnd || code != impl.OK {
		t.Fatalf("RunoffOf(%v, %d, %d, %d) = %v, %d, %d, not %v, %d", list, room, loss, held, runoff, end, code, want, wantEnd)
	}
	if held+totalOf(list) != totalOf(runoff)+end+lost {
		t.Fatalf("RunoffOf(%v, %d, %d, %d) = %v, %d loses or makes water", list, room, loss, held, runoff, end)
	}
}

func TestDrySpells(t *testing.T) {
	list := []int64{0, 0, 30, 50, 0}
	cases := []struct {
		list  []int64
		least int64
		want  string
		code  int64
	}{
		{list, 1, "[[0 2] [4 1]]", impl.OK},
		{list, 2, "[[0 2]]", impl.OK},
		{list, 3, "[]", impl.OK},
		{list, 120, "[]", impl.OK},
		{list, 121, "[]", impl.ErrRange},
		{list, 0, "[]", impl.ErrRange},
		{list, -1, "[]", impl.ErrRange},
		{list, math.MinInt64, "[]", impl.ErrRange},
		{list, math.MaxInt64, "[]", impl.ErrRange},
		{[]int64{0}, 1, "[[0 1]]", impl.OK},
		{[]int64{0}, 2, "[]", impl.OK},
		{[]int64{1}, 1, "[]", impl.OK},
		{[]int64{1, 0, 0, 0, 1}, 3, "[[1 3]]", impl.OK},
		{[]int64{1, 0, 0, 0, 1}, 4, "[]", impl.OK},
		{[]int64{1, 0, 0, 0}, 3, "[[1 3]]", impl.OK},
		{[]int64{0, 1, 0, 1, 0}, 1, "[[0 1] [2 1] [4 1]]", impl.OK},
		{[]int64{0, 0, 1, 0, 1, 0, 0}, 2, "[[0 2] [5 2]]", impl.OK},
		{filled(120, 0), 1, "[[0 120]]", impl.OK},
		{filled(120, 0), 120, "[[0 120]]", impl.OK},
		{filled(119, 0), 120, "[]", impl.OK},
		{append(filled(119, 0), 1), 119, "[[0 119]]", impl.OK},
		{append([]int64{1}, filled(119, 0)...), 119, "[[1 119]]", impl.OK},
		{filled(120, 1), 1, "[]", impl.OK},
		{nil, 1, "[]", impl.ErrInvalid},
		{[]int64{}, 0, "[]", impl.ErrInvalid},
		{filled(121, 0), 1, "[]", impl.ErrInvalid},
		{[]int64{0, -1}, 121, "[]", impl.ErrInvalid},
		{[]int64{0, 3001}, 1, "[]", impl.ErrInvalid},
	}
	for _, c := range cases {
		if got, code := impl.DrySpells(c.list, c.least); fmt.Sprint(got) != c.want || code != c.code {
			t.Errorf("DrySpells(%v, %d) = %v, %d, not %s, %d", c.list, c.least, got, code, c.want, c.code)
		}
	}
}

func TestLongestDry(t *testing.T) {
	cases := []struct {
		list       []int64
		want, code int64
	}{
		{[]int64{0, 0, 30, 50, 0}, 2, impl.OK},
		{[]int64{0, 30, 50, 0, 0}, 2, impl.OK},
		{[]int64{0, 1, 0, 0, 0, 1, 0, 0}, 3, impl.OK},
		{[]int64{0}, 1, impl.OK},
		{[]int64{1}, 0, impl.OK},
		{[]int64{3000}, 0, impl.OK},
		{[]int64{0, 1, 0, 1, 0}, 1, impl.OK},
		{filled(120, 0), 120, impl.OK},
		{filled(120, 1), 0, impl.OK},
		{append(filled(119, 0), 1), 119, impl.OK},
		{append([]int64{1}, filled(119, 0)...), 119, impl.OK},
		{nil, 0, impl.ErrInvalid},
		{[]int64{}, 0, impl.ErrInvalid},
		{filled(121, 0), 0, impl.ErrInvalid},
		{[]int64{0, -1}, 0, impl.ErrInvalid},
		{[]int64{0, 3001}, 0, impl.ErrInvalid},
	}
	for _, c := range cases {
		if got, code := impl.LongestDry(c.list); got != c.want || code != c.code {
			t.Errorf("LongestDry(%v) = %d, %d", c.list, got, code)
		}
	}
}

// drySpellsBy tells by the definition from which days on, and for how many, it is dry, and neither the day
// before nor the day behind is.
func drySpellsBy(list []int64, least int) [][]int64 {
	isWet := func(day int) bool { return day < 0 || day == len(list) || list[day] > 0 }
	var spells [][]int64
	for first := range list {
		for end := first + least; end <= len(list); end++ {
			if totalOf(list[first:end]) == 0 && isWet(first-1) && isWet(end) {
				spells = append(spells, []int64{int64(first), int64(end - first)})
			}
		}
	}
	return spells
}

// TestSpellsAreDry holds the dry spells of many lists against the definition.
func TestSpellsAreDry(t *testing.T) {
	for _, list := range allRain() {
		longest := int64(0)
		for _, spell := range drySpellsBy(list, 1) {
			longest = max(longest, spell[1])
		}
		if got, code := impl.LongestDry(list); got != longest || code != impl.OK {
			t.Fatalf("LongestDry(%v) = %d, %d, not %d", list, got, code, longest)
		}
		for _, least := range []int64{1, 2, 3, 5, longest, longest + 1, 119, 120} {
			if least < 1 || least > 120 {
				continue
			}
			want := drySpellsBy(list, int(least))
			if got, code := impl.DrySpells(list, least); !slices.EqualFunc(got, want, slices.Equal[[]int64]) || code != impl.OK {
				t.Fatalf("DrySpells(%v, %d) = %v, %d, not %v", list, least, got, code, want)
			}
		}
	}
}

func TestRanksOf(t *testing.T) {
	cases := []struct {
		list, want []int64
		code       int64
	}{
		{[]int64{0, 0, 30, 50, 0}, []int64{3, 3, 2, 1, 3}, impl.OK},
		{[]int64{0}, []int64{1}, impl.OK},
		{[]int64{3000}, []int64{1}, impl.OK},
		{[]int64{0, 3000}, []int64{2, 1}, impl.OK},
		{[]int64{3000, 0, 3000}, []int64{1, 3, 1}, impl.OK},
		{[]int64{5, 5, 4, 4, 3}, []int64{1, 1, 3, 3, 5}, impl.OK},
		{filled(120, 0), filled(120, 1), impl.OK},
		{filled(120, 3000), filled(120, 1), impl.OK},
		{append(filled(119, 0), 1), append(filled(119, 2), 1), impl.OK},
		{append([]int64{0}, filled(119, 1)...), append([]int64{120}, filled(119, 1)...), impl.OK},
		{nil, nil, impl.ErrInvalid},
		{[]int64{}, nil, impl.ErrInvalid},
		{filled(121, 0), nil, impl.ErrInvalid},
		{[]int64{0, -1}, nil, impl.ErrInvalid},
		{[]int64{3001, 0}, nil, impl.ErrInvalid},
	}
	for _, c := range cases {
		if got, code := impl.RanksOf(c.list); !slices.Equal(got, c.want) || code != c.code {
			t.Errorf("RanksOf(%v) = %v, %d, not %v, %d", c.list, got, code, c.want, c.code)
		}
	}
}

// TestRanksAreThoseOfSortedRain takes the ranks from the sorted numbers: the first place where one stands.
func TestRanksAreThoseOfSortedRain(t *testing.T) {
	for _, list := range allRain() {
		sorted := slices.Clone(list)
		slices.Sort(sorted)
		slices.Reverse(sorted)
		var want []int64
		for _, rain := range list {
			want = append(want, int64(slices.Index(sorted, rain))+1)
		}
		if got, code := impl.RanksOf(list); !slices.Equal(got, want) || code != impl.OK {
			t.Fatalf("RanksOf(%v) = %v, %d, not %v", list, got, code, want)
		}
	}
}

func TestReturnTime(t *testing.T) {
	list := []int64{0, 0, 30, 50, 0}
	cases := []struct {
		list   []int64
		amount int64
		want   impl.Fraction
		code   int64
	}{
		{list, 30, impl.Fraction{Num: 3, Den: 1}, impl.OK},
		{list, 31, impl.Fraction{Num: 6, Den: 1}, impl.OK},
		{list, 50, impl.Fraction{Num: 6, Den: 1}, impl.OK},
		{list, 51, impl.Fraction{}, impl.ErrNotFound},
		{list, 1, impl.Fraction{Num: 3, Den: 1}, impl.OK},
		{list, 0, impl.Fraction{Num: 6, Den: 5}, impl.OK},
		{list, 3000, impl.Fraction{}, impl.ErrNotFound},
		{list, 3001, impl.Fraction{}, impl.ErrRange},
		{list, -1, impl.Fraction{}, impl.ErrRange},
		{list, math.MinInt64, impl.Fraction{}, impl.ErrRange},
		{list, math.MaxInt64, impl.Fraction{}, impl.ErrRange},
		{[]int64{0}, 0, impl.Fraction{Num: 2, Den: 1}, impl.OK},
		{[]int64{0}, 1, impl.Fraction{}, impl.ErrNotFound},
		{[]int64{3000}, 3000, impl.Fraction{Num: 2, Den: 1}, impl.OK},
		{[]int64{2999}, 3000, impl.Fraction{}, impl.ErrNotFound},
		{[]int64{1, 2, 3}, 2, impl.Fraction{Num: 2, Den: 1}, impl.OK},
		{[]int64{1, 2, 3}, 1, impl.Fraction{Num: 4, Den: 3}, impl.OK},
		{filled(120, 7), 7, impl.Fraction{Num: 121, Den: 120}, impl.OK},
		{filled(119, 7), 7, impl.Fraction{Num: 120, Den: 119}, impl.OK},
		{append(filled(119, 0), 1), 1, impl.Fraction{Num: 121, Den: 1}, impl.OK},
		{nil, 0, impl.Fraction{}, impl.ErrInvalid},
		{[]int64{}, -1, impl.Fraction{}, impl.ErrInvalid},
		{filled(121, 0), 0, impl.Fraction{}, impl.ErrInvalid},
		{[]int64{-1}, 3001, impl.Fraction{}, impl.ErrInvalid},
		{[]int64{3001}, 3000, impl.Fraction{}, impl.ErrInvalid},
	}
	for _, c := range cases {
		if got, code := impl.ReturnTime(c.list, c.amount); got != c.want || code != c.code {
			t.Errorf("ReturnTime(%v, %d) = %v, %d", c.list, c.amount, got, code)
		}
	}
}

// TestReturnTimeIsExact holds the return time against exact fractions of the standard library.
func TestReturnTimeIsExact(t *testing.T) {
	for _, list := range allRain() {
		for _, amount := range []int64{0, 1, 2, 3, 4, list[0], slices.Max(list), min(slices.Max(list)+1, 3000), 3000} {
			reached := int64(0)
			for _, rain := range list {
				if rain >= amount {
					reached++
				}
			}
			want, wantCode := impl.Fraction{}, int64(impl.ErrNotFound)
			if reached > 0 {
				exact := big.NewRat(int64(len(list))+1, reached)
				want, wantCode = impl.Fraction{Num: exact.Num().Int64(), Den: exact.Denom().Int64()}, impl.OK
			}
			if got, code := impl.ReturnTime(list, amount); got != want || code != wantCode {
				t.Fatalf("ReturnTime(%v, %d) = %v, %d, not %v, %d", list, amount, got, code, want, wantCode)
			}
		}
	}
}

func TestRainOn(t *testing.T) {
	cases := []struct{ rain, area, want, code int64 }{
		{123, 10000, 123, impl.OK},
		{0, 1, 0, impl.OK},
		{0, 1000000000, 0, impl.OK},
		{1, 1, 0, impl.OK},
		{1, 9999, 0, impl.OK},
		{1, 10000, 1, impl.OK},
		{1, 19999, 1, impl.OK},
		{1, 20000, 2, impl.OK},
		{3, 3333, 0, impl.OK},
		{3, 3334, 1, impl.OK},
		{3000, 1, 0, impl.OK},
		{3000, 3, 0, impl.OK},
		{3000, 4, 1, impl.OK},
		{3000, 1000000000, 300000000, impl.OK},
		{2999, 1000000000, 299900000, impl.OK},
		{2999, 999999999, 299899999, impl.OK},
		{0, 0, 0, impl.ErrRange},
		{5, 0, 0, impl.ErrRange},
		{5, -1, 0, impl.ErrRange},
		{5, 1000000001, 0, impl.ErrRange},
		{-1, 10000, 0, impl.ErrRange},
		{3001, 10000, 0, impl.ErrRange},
		{3001, 0, 0, impl.ErrRange},
		{math.MaxInt64, math.MaxInt64, 0, impl.ErrRange},
		{math.MinInt64, 1, 0, impl.ErrRange},
		{5, math.MinInt64, 0, impl.ErrRange},
	}
	for _, c := range cases {
		if got, code := impl.RainOn(c.rain, c.area); got != c.want || code != c.code {
			t.Errorf("RainOn(%d, %d) = %d, %d", c.rain, c.area, got, code)
		}
	}
}

// TestRainOnIsRoundedDown holds what falls against the definition of rounding down.
func TestRainOnIsRoundedDown(t *testing.T) {
	for rain := int64(0); rain <= 3000; rain += 7 {
		for _, area := range []int64{1, 2, 3, 9, 3333, 9999, 10000, 10001, 123456789, 999999999, 1000000000} {
			got, code := impl.RainOn(rain, area)
			if 10000*got > rain*area || rain*area >= 10000*(got+1) || code != impl.OK {
				t.Errorf("RainOn(%d, %d) = %d, %d", rain, area, got, code)
			}
		}
	}
}

// TestRainIsReadBack writes the text of each rain by the definition.
func TestRainIsReadBack(t *testing.T) {
	for rain := int64(0); rain <= 3000; rain++ {
		want := fmt.Sprintf("%d.%dmm", rain/10, rain%10)
		if got := impl.RainText(rain); got != want {
			t.Errorf("RainText(%d) = %q, not %q", rain, got, want)
		}
		if got, ok := impl.ReadRain(want); got != rain || !ok {
			t.Errorf("ReadRain(%q) = %d, %v", want, got, ok)
		}
	}
	if got := impl.RainText(123); got != "12.3mm" {
		t.Errorf("RainText(123) = %q", got)
	}
	for _, rain := range append([]int64{-1, 3001, -10, 30000}, extremes...) {
		if got := impl.RainText(rain); got != "" && (rain < 0 || rain > 3000) {
			t.Errorf("RainText(%d) = %q", rain, got)
		}
	}
}

func isZeroRain(n int64) bool { return n == 0 }

func TestNoTextsOfRain(t *testing.T) {
	no := []string{
		"300.1mm", "301.0mm", "1000.0mm", "-0.0mm", "-0.1mm", "-1.0mm", "0.-1mm", "+1.0mm", "1.+0mm", "12.3", "12.3m", "12.3mmm", "12.3mmmm", "12.3MM", "12.3 mm",
		"12.3mm ", " 12.3mm", "12.3mm\n", "12 .3mm", "12. 3mm", "12mm", "12.mm", ".3mm", ".mm", "mm", "12.34mm", "12.30mm", "12.03mm", "12.00mm", "12..3mm", "12.3.4mm",
		"012.3mm", "00.3mm", "12,3mm", "12:3mm", "0.10mm", "0.12mm", "0.3000mm", "0.123mm", "1e1.0mm", "0x1.0mm", "1_2.3mm", "x.3mm", "12.xmm", "\uff11.0mm", "1.\uff10mm",
		"123", "0", "0.0", "0mm", "00mm", "mm0.0", "0.0mmx", "\xff.0mm", "1844674407370955161.6mm", "1844674407370955173.9mm", "922337203685477580.8mm",
		"999999999999999999.9mm", "184467440737095516.1mm", "18446744073709551617.0mm", "0.9223372036854775808mm", "0.18446744073709551617mm",
		strings.Repeat("0", 5000) + ".0mm", "1." + strings.Repeat("0", 5000) + "mm", "1.0" + strings.Repeat("m", 5000), strings.Repeat("1.0mm", 1000),
	}
	checkNotRead(t, no, impl.ReadRain, isZeroRain)
}

func TestReadRainOnChanges(t *testing.T) {
	write := func(rain int64) string {
		if rain < 0 || rain > 3000 {
			return "no rain"
		}
		return fmt.Sprintf("%d.%dmm", rain/10, rain%10)
	}
	checkReader(t, []string{"0.0mm", "0.1mm", "9.9mm", "12.3mm", "100.0mm", "299.9mm", "300.0mm"}, impl.ReadRain, write, isZeroRain)
}

// rainCalls are all functions of chapter 6 with a list that return a code, with their results as texts,
// and the code at the end.
func rainCalls(list []int64, a, b, c int64) map[string]string {
	return map[string]string{
		"RainSums":    fmt.Sprint(impl.RainSums(list, a)),
		"WettestDays": fmt.Sprint(impl.WettestDays(list, a)),
		"RunoffOf":    fmt.Sprint(impl.RunoffOf(list, a, b, c)),
		"RoomFor":     fmt.Sprint(impl.RoomFor(list, a, b)),
		"DrySpells":   fmt.Sprint(impl.DrySpells(list, a)),
		"LongestDry":  fmt.Sprint(impl.LongestDry(list)),
		"RanksOf":     fmt.Sprint(impl.RanksOf(list)),
		"ReturnTime":  fmt.Sprint(impl.ReturnTime(list, a)),
	}
}

// noRainResults are the zero values of the results of rainCalls.
var noRainResults = map[string]string{
	"RainSums": "[]", "WettestDays": "0 0", "RunoffOf": "[] 0", "RoomFor": "0", "DrySpells": "[]", "LongestDry": "0", "RanksOf": "[]", "ReturnTime": "{0 0}",
}

var rainNumbers = append([]int64{2, 5, 119, 120, 121, 3000, 3001, 100000, 100001}, extremes...)

// TestInvalidRain has ErrInvalid come before all other errors.
func TestInvalidRain(t *testing.T) {
	for _, list := range badRain() {
		for _, a := range rainNumbers {
			for _, b := range rainNumbers {
				for name, got := range rainCalls(list, a, b, b) {
					if got != noRainResults[name]+" 1" {
						t.Fatalf("%s(%v) with %d and %d: %s", name, list, a, b, got)
					}
				}
			}
		}
	}
}

// TestRainFunctionsArePure is promise 1 for all functions of chapter 6 with a list: they return, change
// nothing, and give the same once more; with an error, everything else is zero.
func TestRainFunctionsArePure(t *testing.T) {
	for _, list := range slices.Concat(badRain(), limitRain(), randomRain()[:20], oddLists()) {
		with, unchanged := guarded(t, list, spareMark)
		for i, a := range rainNumbers {
			for _, b := range rainNumbers {
				c := rainNumbers[(i+3)%len(rainNumbers)]
				first := rainCalls(with, a, b, c)
				if again := rainCalls(slices.Clone(list), a, b, c); !maps.Equal(first, again) {
					t.Fatalf("%v, %d, %d, %d: %v is followed by %v", list, a, b, c, first, again)
				}
				for name, got := range first {
					checkZero(t, name, got, noRainResults[name])
				}
			}
		}
		if impl.ValidRain(with) != impl.ValidRain(slices.Clone(list)) {
			t.Fatalf("%v differs from itself", list)
		}
		unchanged()
	}
}

// TestRainResultsAreNew is promise 1 as well: no result shares memory with an argument or with another one.
func TestRainResultsAreNew(t *testing.T) {
	for _, list := range append(limitRain(), randomRain()...) {
		for _, days := range []int64{1, 2, 120} {
			checkNewList(t, list, func(l []int64) ([]int64, int64) { return impl.RainSums(l, days) })
		}
		for _, room := range []int64{0, 40, 100000} {
			checkNewList(t, list, func(l []int64) ([]int64, int64) { runoff, _, code := impl.RunoffOf(l, room, 1, 0); return runoff, code })
		}
		checkNewList(t, list, impl.RanksOf)
		checkNewSpells(t, list)
	}
}

// checkNewSpells overwrites each of the dry spells with its whole capacity, and then their list: no other
// one may change with it, nor those of another call, nor the argument.
func checkNewSpells(t *testing.T, list []int64) {
	t.Helper()
	with, unchanged := guarded(t, list, spareMark)
	other, _ := impl.DrySpells(with, 1)
	want := fmt.Sprint(other)
	for k := range other {
		spells, _ := impl.DrySpells(with, 1)
		spell := slices.Clone(spells[k])
		overwrite(spells[k])
		unchanged()
		spells[k] = spell
		if got := fmt.Sprint(spells); got != want || fmt.Sprint(other) != want {
			t.Fatalf("DrySpells(%v): %s becomes %s", list, want, got)
		}
	}
	spells, _ := impl.DrySpells(with, 1)
	clear(spells[:cap(spells)])
	if got := fmt.Sprint(other); got != want {
		t.Fatalf("DrySpells(%v): %s becomes %s", list, want, got)
	}
}

// TestRainNumbersArePure is promise 1 for the functions of chapter 6 without a list.
func TestRainNumbersArePure(t *testing.T) {
	numbers := append([]int64{1000000000, 1000000001, 10000}, rainNumbers...)
	for _, a := range numbers {
		if impl.RainText(a) != impl.RainText(a) {
			t.Errorf("RainText(%d) differs", a)
		}
		for _, b := range numbers {
			checkTwice(t, "RainOn", a, b, impl.RainOn)
		}
	}
	for _, text := range append([]string{"12.3mm", "0.0mm", "300.0mm", "300.1mm"}, oddTexts...) {
		rain, ok := impl.ReadRain(text)
		if again, okAgain := impl.ReadRain(strings.Clone(text)); again != rain || okAgain != ok {
			t.Errorf("ReadRain of %q differs", text)
		}
	}
}
