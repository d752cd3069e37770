package tests

import (
	"math"
	"math/rand"
	"slices"
	"strconv"
	"strings"
	"testing"

	"loop.example/g01032/impl"
)

func land(rows, columns int64, heights ...int64) impl.Land {
	return impl.Land{Rows: rows, Columns: columns, Heights: heights}
}

func copyOfLand(l impl.Land) impl.Land {
	return land(l.Rows, l.Columns, slices.Clone(l.Heights)...)
}

// flatLand returns a land where all cells have the same height.
func flatLand(rows, columns, height int64) impl.Land {
	return land(rows, columns, filled(int(rows*columns), height)...)
}

// randomLands returns a land with heights from low to high of each possible shape, always the same ones.
func randomLands(seed, low, high int64) []impl.Land {
	source := rand.New(rand.NewSource(seed))
	var lands []impl.Land
	for rows := int64(1); rows <= impl.MaxSide; rows++ {
		for columns := int64(1); columns <= impl.MaxSide; columns++ {
			l := flatLand(rows, columns, 0)
			for i := range l.Heights {
				l.Heights[i] = low + source.Int63n(high-low+1)
			}
			lands = append(lands, l)
		}
	}
	return lands
}

// allLands returns lands with few and with many different heights, and with the least and the greatest ones.
func allLands() []impl.Land {
	lands := slices.Concat(randomLands(1, -1, 1), randomLands(2, -3, 3), randomLands(3, -2000, 2000))
	lands = append(lands, flatLand(1, 1, -2000), flatLand(1, 1, 2000), flatLand(1, 12, -2000), flatLand(12, 1, 2000))
	return append(lands, flatLand(12, 12, -2000), flatLand(12, 12, 2000), flatLand(12, 12, 0))
}

// badLands are lands that are not valid, each for one reason.
func badLands() []impl.Land {
	return []impl.Land{
		{},
		{Heights: []int64{}},
		land(1, 1),
		land(1, 1, 0, 0),
		land(1, 1, -2001),
		land(1, 1, 2001),
		land(1, 1, math.MaxInt64),
		land(1, 1, math.MinInt64),
		land(2, 2, 0, 0, 0),
		land(2, 2, 0, 0, 0, 0, 0),
		land(2, 2, 0, 0, 0, 2001),
		land(2, 2, -2001, 0, 0, 0),
		land(0, 1),
		land(1, 0),
		land(0, 1, 0),
		land(1, 0, 0),
		land(-1, -1, 0),
		land(-2, -2, 0, 0, 0, 0),
		land(1, -1, 0),
		flatLand(13, 1, 0),
		flatLand(1, 13, 0),
		flatLand(13, 12, 0),
		flatLand(12, 13, 0),
		land(12, 12, filled(143, 0)...),
		land(12, 12, filled(145, 0)...),
		land(math.MaxInt64, math.MaxInt64, 0), // the product wraps around to 1
		land(math.MinInt64, 2),
		land(1<<32, 1<<32),
		land(math.MaxInt64, 1, 0),
		land(1, math.MinInt64, 0),
		land(144, 1, filled(144, 0)...),
		land(math.MinInt64, math.MinInt64, extremes...),
	}
}

// areNext reports whether two cells share a side.
func areNext(l impl.Land, a, b int64) bool {
	rows, columns := a/l.Columns-b/l.Columns, a%l.Columns-b%l.Columns
	return rows*rows+columns*columns == 1
}

// landsText writes a land by the definition of its text.
func landsText(l impl.Land) string {
	text := ""
	for i, height := range l.Heights {
		end := " "
		if int64(i)%l.Columns == l.Columns-1 {
			end = "\n"
		}
		text += strconv.FormatInt(height, 10) + end
	}
	return text
}

// pointsAround are levels around the heights of a land, and the least and the greatest ones.
func pointsAround(l impl.Land) []int64 {
	levels := []int64{-2000, -1999, -1, 0, 1, 1999, 2000}
	for _, height := range l.Heights[:min(len(l.Heights), 5)] {
		levels = append(levels, max(height-1, -2000), height, min(height+1, 2000))
	}
	return levels
}

// wrongLevels are numbers that are no levels.
var wrongLevels = []int64{-2001, 2001, math.MinInt64, math.MaxInt64}

func TestValidLand(t *testing.T) {
	if impl.MaxSide != 12 {
		t.Error("the limit is wrong")
	}
	checkValidity(t, impl.ValidLand, allLands(), badLands())
}

// TestValidLandByShape holds all small shapes, with too few and too many heights, against the definition.
func TestValidLandByShape(t *testing.T) {
	for rows := int64(-2); rows <= 14; rows++ {
		for columns := int64(-2); columns <= 14; columns++ {
			for many := max(0, rows*columns-1); many <= max(0, rows*columns)+1; many++ {
				want := rows >= 1 && rows <= 12 && columns >= 1 && columns <= 12 && many == rows*columns
				if got := impl.ValidLand(land(rows, columns, filled(int(many), -7)...)); got != want {
					t.Errorf("%d rows, %d columns, %d heights: %v", rows, columns, many, got)
				}
			}
		}
	}
}

// TestValidLandByHeight puts numbers around the limits at each cell.
func TestValidLandByHeight(t *testing.T) {
	for _, l := range []impl.Land{flatLand(1, 1, 0), flatLand(1, 5, 0), flatLand(5, 1, 0), flatLand(3, 4, 0)} {
		for i := range l.Heights {
			for _, height := range append([]int64{-2001, -2000, 2000, 2001}, extremes...) {
				l.Heights[i] = height
				if got := impl.ValidLand(l); got != (height >= -2000 && height <= 2000) {
					t.Errorf("ValidLand(%v) = %v", l, got)
				}
			}
			l.Heights[i] = 0
		}
	}
}

func TestSameLand(t *testing.T) {
	different := []impl.Land{
		land(1, 2, 3, 4), land(2, 1, 3, 4), land(1, 2, 3, 5), land(1, 2, 2, 4), land(1, 2, 3), land(1, 2, 3, 4, 0), land(1, 3, 3, 4),
		land(0, 0), land(0, 1), land(1, 0), land(0, 0, 0), land(0, 0, 2001), land(math.MinInt64, 0), land(0, math.MaxInt64),
	}
	checkDiffer(t, different, copyOfLand, impl.SameLand)
	if !impl.SameLand(impl.Land{Heights: nil}, impl.Land{Heights: []int64{}}) || !impl.SameLand(impl.Land{Heights: []int64{}}, impl.Land{}) {
		t.Error("nil and empty Heights are told to differ")
	}
}

func TestHeightAt(t *testing.T) {
	for _, l := range append(randomLands(4, -2000, 2000), flatLand(12, 12, 2000)) {
		for row := int64(-1); row <= l.Rows; row++ {
			for column := int64(-1); column <= l.Columns; column++ {
				want, wantCode := int64(0), int64(impl.ErrRange)
				if row >= 0 && row < l.Rows && column >= 0 && column < l.Columns {
					want, wantCode = l.Heights[row*l.Columns+column], impl.OK
				}
				if got, code := impl.HeightAt(l, row, column); got != want || code != wantCode {
					t.Fatalf("HeightAt(%v, %d, %d) = %d, %d", l, row, column, got, code)
				}
			}
		}
	}
	for _, n := range []int64{-1, 4, math.MinInt64, math.MaxInt64} {
		_, rowCode := impl.HeightAt(flatLand(4, 4, 1), n, 0)
		_, columnCode := impl.HeightAt(flatLand(4, 4, 1), 0, n)
		if rowCode != impl.ErrRange || columnCode != impl.ErrRange {
			t.Errorf("HeightAt with %d: %d, %d", n, rowCode, columnCode)
		}
	}
}

func TestSetHeight(t *testing.T) {
	for _, l := range randomLands(5, -2000, 2000) {
		for _, height := range []int64{-2000, 0, 2000} {
			for i := range l.Heights {
				want := land(l.Rows, l.Columns, slices.Clone(l.Heights)...)
				want.Heights[i] = height
				got, code := impl.SetHeight(l, int64(i)/l.Columns, int64(i)%l.Columns, height)
				if !impl.SameLand(got, want) || code != impl.OK {
					t.Fatalf("SetHeight(%v, cell %d, %d) = %v, %d", l, i, height, got, code)
				}
			}
		}
	}
	for _, c := range [][3]int64{
		{-1, 0, 0}, {2, 0, 0}, {0, -1, 0}, {0, 3, 0}, {2, 3, 0}, {1, 3, 2000}, {0, 5, 0},
		{0, 0, -2001}, {0, 0, 2001}, {1, 2, math.MaxInt64}, {math.MaxInt64, 0, 0}, {0, math.MinInt64, 0},
	} {
		if got, code := impl.SetHeight(flatLand(2, 3, 1), c[0], c[1], c[2]); !impl.SameLand(got, impl.Land{}) || code != impl.ErrRange {
			t.Errorf("SetHeight(%v) = %v, %d", c, got, code)
		}
	}
}

func TestLowestCells(t *testing.T) {
	cases := []struct {
		l    impl.Land
		want []int64
	}{
		{land(2, 2, 3, 1, 1, 2), []int64{1, 2}},
		{land(1, 1, 7), []int64{0}},
		{land(1, 3, -10, 0, -5), []int64{0}},
		{land(3, 1, 0, -5, -5), []int64{1, 2}},
		{land(1, 3, 2000, 2000, 1999), []int64{2}},
		{flatLand(12, 12, 2000), countingUp(0, 143)},
	}
	for _, c := range cases {
		if got, code := impl.LowestCells(c.l); !slices.Equal(got, c.want) || code != impl.OK {
			t.Errorf("LowestCells(%v) = %v, %d", c.l, got, code)
		}
	}
	for _, l := range allLands() {
		var want []int64
		for i, height := range l.Heights {
			if height == slices.Min(l.Heights) {
				want = append(want, int64(i))
			}
		}
		if got, code := impl.LowestCells(l); !slices.Equal(got, want) || code != impl.OK {
			t.Errorf("LowestCells(%v) = %v, %d", l, got, code)
		}
	}
}

// TestBelow holds CellsBelow and VolumeBelow against the definitions.
func TestBelow(t *testing.T) {
	example := land(1, 3, -10, 0, -5)
	if n, code := impl.VolumeBelow(example, 0); n != 15 || code != impl.OK {
		t.Errorf("VolumeBelow(%v, 0) = %d, %d", example, n, code)
	}
	if n, code := impl.VolumeBelow(flatLand(12, 12, -2000), 2000); n != 576000 || code != impl.OK {
		t.Errorf("the greatest volume is %d, %d", n, code)
	}
	for _, l := range allLands() {
		for _, level := range pointsAround(l) {
			cells, volume := int64(0), int64(0)
			for _, height := range l.Heights {
				if height < level {
					cells++
					volume += level - height
				}
			}
			if got, code := impl.CellsBelow(l, level); got != cells || code != impl.OK {
				t.Errorf("CellsBelow(%v, %d) = %d, %d", l, level, got, code)
			}
			if got, code := impl.VolumeBelow(l, level); got != volume || code != impl.OK {
				t.Errorf("VolumeBelow(%v, %d) = %d, %d", l, level, got, code)
			}
		}
	}
}

// landResult is what a function of chapter 3 returns: its lists, numbers and code.
type landResult struct {
	list    []int64
	numbers [3]int64
	code    int64
}

func (a landResult) same(b landResult) bool {
	return slices.Equal(a.list, b.list) && a.numbers == b.numbers && a.code == b.code
}

func ofLand(l impl.Land, n, code int64) landResult {
	return landResult{l.Heights, [3]int64{l.Rows, l.Columns, n}, code}
}

func ofList(list []int64, code int64) landResult { return landResult{list: list, code: code} }

func ofNumber(n, code int64) landResult { return landResult{numbers: [3]int64{n}, code: code} }

// withLevel are the functions of a land and one number that must be a level.
var withLevel = map[string]func(l impl.Land, level int64) landResult{
	"CellsBelow":  func(l impl.Land, level int64) landResult { return ofNumber(impl.CellsBelow(l, level)) },
	"VolumeBelow": func(l impl.Land, level int64) landResult { return ofNumber(impl.VolumeBelow(l, level)) },
	"PoolsBelow":  func(l impl.Land, level int64) landResult { return ofList(impl.PoolsBelow(l, level)) },
	"RaiseLand":   func(l impl.Land, level int64) landResult { return ofLand(impl.RaiseLand(l, level)) },
}

func TestNoLevelsOfLand(t *testing.T) {
	for name, f := range withLevel {
		for _, l := range []impl.Land{flatLand(1, 1, 0), land(1, 3, -10, 0, -5), flatLand(12, 12, 2000)} {
			for _, level := range wrongLevels {
				if got := f(l, level); !got.same(landResult{code: impl.ErrRange}) {
					t.Errorf("%s(%v, %d) = %v", name, l, level, got)
				}
			}
			for _, level := range []int64{-2000, 2000} {
				if got := f(l, level); got.code != impl.OK {
					t.Errorf("%s(%v, %d) = %v", name, l, level, got)
				}
			}
		}
	}
}

func TestLevelFor(t *testing.T) {
	example := land(1, 3, -10, 0, -5)
	cases := []struct {
		l                  impl.Land
		volume, want, code int64
	}{
		{example, 0, -2000, impl.OK},
		{example, 1, -9, impl.OK},
		{example, 5, -5, impl.OK},
		{example, 6, -4, impl.OK},
		{example, 7, -4, impl.OK},
		{example, 8, -3, impl.OK},
		{example, 15, 0, impl.OK},
		{example, 16, 1, impl.OK},
		{example, 18, 1, impl.OK},
		{example, 19, 2, impl.OK},
		{example, 6015, 2000, impl.OK},
		{example, 6016, 0, impl.ErrFull},
		{example, 1000000000, 0, impl.ErrFull},
		{example, 1000000001, 0, impl.ErrRange},
		{example, -1, 0, impl.ErrRange},
		{example, math.MaxInt64, 0, impl.ErrRange},
		{example, math.MinInt64, 0, impl.ErrRange},
		{land(1, 1, 2000), 0, -2000, impl.OK},
		{land(1, 1, 2000), 1, 0, impl.ErrFull},
		{land(1, 1, 1999), 1, 2000, impl.OK},
		{land(1, 1, 1999), 2, 0, impl.ErrFull},
		{land(1, 1, -2000), 1, -1999, impl.OK},
		{land(3, 1, 1, 2, 3), 3, 3, impl.OK},
		{flatLand(12, 12, -2000), 576000, 2000, impl.OK},
		{flatLand(12, 12, -2000), 575857, 2000, impl.OK},
		{flatLand(12, 12, -2000), 575856, 1999, impl.OK},
		{flatLand(12, 12, -2000), 576001, 0, impl.ErrFull},
	}
	for _, c := range cases {
		if got, code := impl.LevelFor(c.l, c.volume); got != c.want || code != c.code {
			t.Errorf("LevelFor(%v, %d) = %d, %d, not %d, %d", c.l, c.volume, got, code, c.want, c.code)
		}
	}
}

// volumeOf is the volume by the definition, for any level.
func volumeOf(l impl.Land, level int64) int64 {
	volume := int64(0)
	for _, height := range l.Heights {
		volume += max(level-height, 0)
	}
	return volume
}

// TestLevelIsEnough is promise 4 for levels: the told one is enough, and the one below is not.
func TestLevelIsEnough(t *testing.T) {
	source := rand.New(rand.NewSource(6))
	for _, l := range allLands() {
		most := volumeOf(l, 2000)
		volumes := []int64{0, 1, 2, most / 2, most - 1, most, most + 1, source.Int63n(most + 1), source.Int63n(most + 1)}
		for _, level := range pointsAround(l) {
			volumes = append(volumes, volumeOf(l, level), volumeOf(l, level)+1)
		}
		for _, volume := range volumes {
			if volume < 0 {
				continue
			}
			level, code := impl.LevelFor(l, volume)
			if volume > most {
				if level != 0 || code != impl.ErrFull {
					t.Errorf("LevelFor(%v, %d) = %d, %d", l, volume, level, code)
				}
				continue
			}
			enough := volumeOf(l, level) >= volume
			least := level == -2000 || volumeOf(l, level-1) < volume
			if code != impl.OK || !enough || !least || level < -2000 || level > 2000 {
				t.Errorf("LevelFor(%v, %d) = %d, %d", l, volume, level, code)
			}
		}
	}
}

func TestPoolsBelow(t *testing.T) {
	row, column := land(1, 3, -10, 0, -5), land(3, 1, -10, 0, -5)
	snake := land(3, 3, 0, 0, 0, 9, 9, 0, 0, 0, 0)
	ring := land(3, 3, 0, 0, 0, 0, 9, 0, 0, 0, 0)
	cross := land(3, 3, 9, 0, 9, 0, 0, 0, 9, 0, 9)
	cases := []struct {
		l     impl.Land
		level int64
		want  []int64
	}{
		{row, 0, []int64{1, 1}},
		{row, 1, []int64{3}},
		{row, -5, []int64{1}},
		{row, -4, []int64{1, 1}},
		{row, -10, nil},
		{row, -2000, nil},
		{column, 0, []int64{1, 1}},
		{column, 1, []int64{3}},
		{column, -10, nil},
		{land(1, 6, 0, 0, 9, 0, 0, 0), 1, []int64{2, 3}},
		{land(6, 1, 0, 0, 0, 9, 0, 0), 1, []int64{3, 2}},
		{land(2, 3, 0, 9, 9, 9, 9, 0), 1, []int64{1, 1}},
		{land(2, 3, 9, 9, 0, 0, 9, 9), 1, []int64{1, 1}}, // the end of a row is not next to the beginning of the next one
		{land(3, 2, 0, 9, 9, 0, 0, 9), 1, []int64{1, 1, 1}},
		{land(2, 2, 0, 9, 9, 0), 1, []int64{1, 1}}, // a corner is not a side
		{snake, 1, []int64{7}},
		{ring, 1, []int64{8}},
		{ring, 10, []int64{9}},
		{cross, 1, []int64{5}},
		{land(2, 3, 9, 9, 0, 0, 0, 0), 1, []int64{4}},
		{land(3, 3, 9, 9, 0, 0, 9, 0, 0, 9, 9), 1, []int64{2, 2}},
		{land(3, 3, 0, 9, 0, 0, 9, 0, 0, 0, 0), 1, []int64{7}}, // two arms meet only in the last row
		{land(1, 1, 5), 5, nil},
		{land(1, 1, 5), 6, []int64{1}},
		{flatLand(12, 12, 1999), 2000, []int64{144}},
		{flatLand(12, 12, 2000), 2000, nil},
		{flatLand(1, 12, 0), 1, []int64{12}},
		{flatLand(12, 1, 0), 1, []int64{12}},
	}
	for _, c := range cases {
		if got, code := impl.PoolsBelow(c.l, c.level); !slices.Equal(got, c.want) || code != impl.OK {
			t.Errorf("PoolsBelow(%v, %d) = %v, %d, not %v", c.l, c.level, got, code, c.want)
		}
	}
}

// TestManyPools has a chessboard, with as many pools as there can be.
func TestManyPools(t *testing.T) {
	board := flatLand(12, 12, 0)
	for i := range board.Heights {
		board.Heights[i] = int64(i/12+i%12) % 2
	}
	if got, code := impl.PoolsBelow(board, 1); !slices.Equal(got, filled(72, 1)) || code != impl.OK {
		t.Errorf("PoolsBelow of a chessboard = %v, %d", got, code)
	}
}

// poolsByLeast gives all cells below the level the least number of a cell that they are connected
// with, step by step, and counts the cells with each number.
func poolsByLeast(l impl.Land, level int64) []int64 {
	least := countingUp(0, int64(len(l.Heights))-1)
	for changed := true; changed; {
		changed = false
		for a := range least {
			for b := range least {
				both := l.Heights[a] < level && l.Heights[b] < level
				if both && areNext(l, int64(a), int64(b)) && least[b] < least[a] {
					least[a], changed = least[b], true
				}
			}
		}
	}
	counts := make([]int64, len(least))
	for cell, first := range least {
		if l.Heights[cell] < level {
			counts[first]++
		}
	}
	return slices.DeleteFunc(counts, func(n int64) bool { return n == 0 })
}

// TestPoolsAreBelow is promise 4 for pools: they have all cells below the level, those that are
// connected in the same one.
func TestPoolsAreBelow(t *testing.T) {
	for _, l := range allLands() {
		levels := []int64{0, 1, l.Heights[0], l.Heights[len(l.Heights)-1]}
		for _, level := range append(levels, -2000, 2000) {
			pools, code := impl.PoolsBelow(l, level)
			if want := poolsByLeast(l, level); !slices.Equal(pools, want) || code != impl.OK {
				t.Fatalf("PoolsBelow(%v, %d) = %v, %d, not %v", l, level, pools, code, want)
			}
			sum := int64(0)
			for _, size := range pools {
				sum += size
			}
			if below, _ := impl.CellsBelow(l, level); below != sum {
				t.Fatalf("PoolsBelow(%v, %d) = %v, but %d cells are below", l, level, pools, below)
			}
		}
	}
}

func TestRaiseLand(t *testing.T) {
	example := land(1, 3, -10, 0, -5)
	if got, earth, code := impl.RaiseLand(example, -3); !impl.SameLand(got, land(1, 3, -3, 0, -3)) || earth != 9 || code != impl.OK {
		t.Errorf("RaiseLand(%v, -3) = %v, %d, %d", example, got, earth, code)
	}
	if got, earth, code := impl.RaiseLand(example, -10); !impl.SameLand(got, example) || earth != 0 || code != impl.OK {
		t.Errorf("RaiseLand(%v, -10) = %v, %d, %d", example, got, earth, code)
	}
	for _, l := range allLands() {
		for _, height := range pointsAround(l) {
			want, added := copyOfLand(l), int64(0)
			for i, old := range l.Heights {
				if old < height {
					want.Heights[i] = height
					added += height - old
				}
			}
			if got, earth, code := impl.RaiseLand(l, height); !impl.SameLand(got, want) || earth != added || code != impl.OK {
				t.Errorf("RaiseLand(%v, %d) = %v, %d, %d", l, height, got, earth, code)
			}
		}
	}
}

func TestWayDown(t *testing.T) {
	hill := land(3, 3, 1, 1, 1, 1, 5, 1, 1, 1, 1)
	cases := []struct {
		l    impl.Land
		cell int64
		want []int64
	}{
		{land(2, 3, 9, 5, 7, 8, 4, 1), 0, []int64{0, 1, 4, 5}},
		{land(1, 3, -10, 0, -5), 0, []int64{0}},
		{land(1, 3, -10, 0, -5), 1, []int64{1, 0}},
		{land(1, 3, -10, 0, -5), 2, []int64{2}},
		{land(3, 1, -5, 0, -10), 1, []int64{1, 2}},
		{land(1, 5, 4, 3, 2, 1, 0), 0, []int64{0, 1, 2, 3, 4}},
		{land(5, 1, 0, 1, 2, 3, 4), 4, []int64{4, 3, 2, 1, 0}},
		{land(1, 3, 1, 5, 1), 1, []int64{1, 0}},
		{land(3, 1, 1, 5, 1), 1, []int64{1, 0}},
		{hill, 4, []int64{4, 1}},
		{hill, 0, []int64{0}}, // an equal height is not lower
		{land(3, 3, 9, 3, 9, 2, 5, 2, 9, 2, 9), 4, []int64{4, 3}},
		{land(3, 3, 9, 3, 9, 3, 5, 2, 9, 2, 9), 4, []int64{4, 5}},
		{land(3, 3, 9, 3, 9, 3, 5, 3, 9, 2, 9), 4, []int64{4, 7}},
		{land(2, 3, 9, 9, 3, 4, 9, 9), 3, []int64{3}}, // the last cell of the row before is not next to it
		{land(2, 2, 9, 8, 8, 0), 0, []int64{0, 1, 3}},
		{land(1, 1, 2000), 0, []int64{0}},
		{flatLand(12, 12, 7), 143, []int64{143}},
	}
	for _, c := range cases {
		if got, code := impl.WayDown(c.l, c.cell); !slices.Equal(got, c.want) || code != impl.OK {
			t.Errorf("WayDown(%v, %d) = %v, %d, not %v", c.l, c.cell, got, code, c.want)
		}
	}
}

// TestWaysGoDown holds ways against the definition.
func TestWaysGoDown(t *testing.T) {
	for _, l := range allLands() {
		for cell := range l.Heights {
			want := []int64{int64(cell)}
			for low := int64(-1); low != want[len(want)-1]; {
				low = want[len(want)-1]
				best := low
				for other := range l.Heights {
					if areNext(l, low, int64(other)) && l.Heights[other] < l.Heights[best] {
						best = int64(other)
					}
				}
				if best != low {
					want = append(want, best)
				}
			}
			if got, code := impl.WayDown(l, int64(cell)); !slices.Equal(got, want) || code != impl.OK {
				t.Fatalf("WayDown(%v, %d) = %v, %d, not %v", l, cell, got, code, want)
			}
		}
	}
}

func TestNoCells(t *testing.T) {
	for _, l := range []impl.Land{flatLand(1, 1, 0), flatLand(1, 12, 0), flatLand(12, 1, 0), flatLand(12, 12, 0), land(2, 3, 1, 2, 3, 4, 5, 6)} {
		many := int64(len(l.Heights))
		for _, cell := range []int64{-1, many, many + 1, math.MinInt64, math.MaxInt64} {
			if way, code := impl.WayDown(l, cell); len(way) != 0 || code != impl.ErrRange {
				t.Errorf("WayDown(%v, %d) = %v, %d", l, cell, way, code)
			}
		}
		if way, code := impl.WayDown(l, many-1); len(way) == 0 || code != impl.OK {
			t.Errorf("WayDown(%v, %d) = %v, %d", l, many-1, way, code)
		}
	}
}

// landCalls are all functions of chapter 3 that return a code, called with a land and three numbers.
func landCalls(l impl.Land, a, b, c int64) map[string]landResult {
	set, setCode := impl.SetHeight(l, a, b, c)
	results := map[string]landResult{
		"HeightAt":    ofNumber(impl.HeightAt(l, a, b)),
		"SetHeight":   ofLand(set, 0, setCode),
		"LowestCells": ofList(impl.LowestCells(l)),
		"LevelFor":    ofNumber(impl.LevelFor(l, a)),
		"WayDown":     ofList(impl.WayDown(l, a)),
	}
	for name, f := range withLevel {
		results[name] = f(l, a)
	}
	return results
}

// TestInvalidLands has ErrInvalid come before ErrRange.
func TestInvalidLands(t *testing.T) {
	for _, l := range badLands() {
		for _, n := range append([]int64{2001, -2001, 1000000001}, extremes...) {
			for name, got := range landCalls(l, n, n, n) {
				if !got.same(landResult{code: impl.ErrInvalid}) {
					t.Errorf("%s(%v, %d) = %v", name, l, n, got)
				}
			}
		}
		if text := impl.LandText(l); text != "" {
			t.Errorf("LandText(%v) = %q", l, text)
		}
	}
}

func TestLandsAreReadBack(t *testing.T) {
	for _, l := range allLands() {
		text := landsText(l)
		if got := impl.LandText(l); got != text {
			t.Errorf("LandText(%v) = %q, not %q", l, got, text)
		}
		if got, ok := impl.ReadLand(text); !impl.SameLand(got, l) || !ok {
			t.Errorf("ReadLand(%q) = %v, %v", text, got, ok)
		}
	}
}

func TestNoTextsOfLands(t *testing.T) {
	wide, high := strings.Repeat("0 ", 12)+"0\n", strings.Repeat("0\n", 13)
	no := []string{
		"", "\n", "\n\n", "1", "1 2", "1 2\n3\n", "1\n2 3\n", "1 2\n3 4", "1  2\n", " 1 2\n", "1 2 \n", "1 2\n\n", "\n1 2\n", "1\n\n2\n",
		"1 2\n3 4 5\n6\n", "1 2\n3\n4 5 6\n", "1 2 3\n4\n5 6\n", "1 2\n3 4\n5\n6\n", "1 2\r\n", "1\t2\n", "1,2\n", "1 2\n ", "1 2\n \n",
		"1 2001\n", "-2001 0\n", "0\n2001\n", "01\n", "+1\n", "-0\n", "--1\n", "1-\n", "-\n", "1.0\n", "a\n", "1 a\n", "1 -0\n", "1\x00\n", "1\xff\n",
		"9223372036854775808\n", "-9223372036854775808\n", "999999999999999999\n", "18446744073709551616\n", "１\n", "1\u00a02\n", "1\v2\n",
		wide, wide + wide, high, strings.Repeat("0 0\n", 13), strings.Repeat("\n", 5000), strings.Repeat("1 ", 5000) + "\n",
		strings.Repeat("1\n", 5000), strings.Repeat(wide, 144),
	}
	checkNotRead(t, no, impl.ReadLand, isZeroLand)
}

func TestReadLandOnChanges(t *testing.T) {
	texts := []string{"-10 0 -5\n", "7\n-7\n10\n", "1 2\n3 -4\n", "2000 -2000\n", "0\n"}
	checkReader(t, texts, impl.ReadLand, textOfValidLand, isZeroLand)
}

func isZeroLand(l impl.Land) bool { return impl.SameLand(l, impl.Land{}) }

// textOfValidLand writes a land by the definition of its text, if it is valid.
func textOfValidLand(l impl.Land) string {
	if !impl.ValidLand(l) {
		return "no land"
	}
	return landsText(l)
}

// TestReadLandByText holds all short texts against the definition: a text is read just if it is the
// text of a land, which here has at most three cells with few digits.
func TestReadLandByText(t *testing.T) {
	texts := map[string]impl.Land{}
	for a := int64(-11); a <= 111; a++ {
		one := land(1, 1, a)
		texts[landsText(one)] = one
		for b := int64(-11); b <= 111; b++ {
			for _, l := range []impl.Land{land(1, 2, a, b), land(2, 1, a, b)} {
				texts[landsText(l)] = l
			}
		}
	}
	for a := int64(0); a <= 1; a++ {
		for bc := int64(0); bc <= 3; bc++ {
			for _, l := range []impl.Land{land(1, 3, a, bc/2, bc%2), land(3, 1, a, bc/2, bc%2)} {
				texts[landsText(l)] = l
			}
		}
	}
	found := 0
	for _, text := range textsOver("-01 \n", 6) {
		want, is := texts[text]
		if n, isNumber := strings.CutSuffix(text, "\n"); isNumber && !strings.ContainsAny(n, " \n") && len(n) > 2 {
			continue // numbers with more digits than the table has
		}
		if got, ok := impl.ReadLand(text); !impl.SameLand(got, want) || ok != is {
			t.Errorf("ReadLand(%q) = %v, %v", text, got, ok)
		}
		if is {
			found++
		}
	}
	if found == 0 {
		t.Error("no text has been read")
	}
}

// landArguments are lands, valid or not, and numbers, told with them.
func landArguments() ([]impl.Land, []int64) {
	lands := append(badLands(), randomLands(7, -2000, 2000)...)
	lands = append(lands, land(1, 3, -10, 0, -5), land(3, 1, -10, 0, -5), flatLand(12, 12, 2000))
	return lands, append([]int64{2, 5, 15, -2001, -2000, 2000, 2001, 143, 144, 1000000000, 1000000001}, extremes...)
}

// TestLandFunctionsArePure is promise 1 for the functions of chapter 3 that return a list or a land.
func TestLandFunctionsArePure(t *testing.T) {
	lands, numbers := landArguments()
	for _, l := range lands {
		with := func(heights []int64) impl.Land { return impl.Land{Rows: l.Rows, Columns: l.Columns, Heights: heights} }
		checkNewList(t, l.Heights, func(h []int64) ([]int64, int64) { return impl.LowestCells(with(h)) })
		for _, n := range numbers {
			checkNewList(t, l.Heights, func(h []int64) ([]int64, int64) { return impl.PoolsBelow(with(h), n) })
			checkNewList(t, l.Heights, func(h []int64) ([]int64, int64) { return impl.WayDown(with(h), n) })
			checkNewList(t, l.Heights, func(h []int64) ([]int64, int64) {
				raised, _, code := impl.RaiseLand(with(h), n)
				return raised.Heights, code
			})
			checkNewList(t, l.Heights, func(h []int64) ([]int64, int64) {
				changed, code := impl.SetHeight(with(h), 0, l.Columns-1, n)
				return changed.Heights, code
			})
		}
	}
}

// TestLandResultsAreEqual is promise 1 for all functions of chapter 3: they return, change nothing,
// and give the same once more; with an error, everything else is zero.
func TestLandResultsAreEqual(t *testing.T) {
	lands, numbers := landArguments()
	for _, l := range lands {
		with := func(heights []int64) impl.Land { return impl.Land{Rows: l.Rows, Columns: l.Columns, Heights: heights} }
		for i, a := range numbers {
			b, c := numbers[(i+3)%len(numbers)], numbers[(i+5)%len(numbers)]
			calls := func(heights []int64) map[string]landResult { return landCalls(with(heights), a, b, c) }
			results := checkPure(t, l.Heights, calls, sameResults)
			for name, got := range results {
				if got.code != impl.OK && !got.same(landResult{code: got.code}) {
					t.Errorf("%s(%v, %d, %d, %d) = %v", name, l, a, b, c, got)
				}
			}
		}
		checkPure(t, l.Heights, func(h []int64) bool { return impl.ValidLand(with(h)) }, func(a, b bool) bool { return a == b })
		checkPure(t, l.Heights, func(h []int64) string { return impl.LandText(with(h)) }, func(a, b string) bool { return a == b })
		checkPure(t, l.Heights, func(h []int64) bool { return impl.SameLand(with(h), l) }, func(a, b bool) bool { return a && b })
	}
}

func sameResults(a, b map[string]landResult) bool {
	for name := range a {
		if !a[name].same(b[name]) {
			return false
		}
	}
	return len(a) == len(b)
}

// TestReadLandIsPure is promise 1 for ReadLand.
func TestReadLandIsPure(t *testing.T) {
	for _, text := range append([]string{"-10 0 -5\n", "1\n2\n", "1 2\n3\n"}, oddTexts...) {
		first, ok := impl.ReadLand(text)
		want := copyOfLand(first)
		overwrite(first.Heights)
		if again, okAgain := impl.ReadLand(strings.Clone(text)); !impl.SameLand(again, want) || okAgain != ok {
			t.Errorf("ReadLand of %q differs", text)
		}
	}
}
