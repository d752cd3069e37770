package tests

import (
	"fmt"
	"maps"
	"math"
	"math/rand"
	"slices"
	"strings"
	"testing"

	"loop.example/g01032/impl"
)

// drawn returns the land with a row for each text: a dot is lower than the level 0, an o stands just at it, and an x is higher.
func drawn(rows ...string) impl.Land {
	l := impl.Land{Rows: int64(len(rows)), Columns: int64(len(rows[0]))}
	for _, r := range strings.Join(rows, "") {
		l.Heights = append(l.Heights, map[rune]int64{'.': -1, 'o': 0, 'x': 1}[r])
	}
	return l
}

// smallLands are lands of up to 16 cells, always the same ones, some of each shape, with heights from -depth to depth.
func smallLands(seed, depth int64, some int) []impl.Land {
	source := rand.New(rand.NewSource(seed))
	var lands []impl.Land
	for _, shape := range [][2]int64{{1, 1}, {1, 2}, {2, 1}, {1, 3}, {3, 1}, {2, 2}, {1, 7}, {7, 1}, {2, 3}, {3, 2}, {3, 3}, {2, 5}, {5, 2}, {3, 4}, {4, 3}, {2, 8}, {4, 4}, {1, 12}, {12, 1}} {
		for range some {
			l := flatLand(shape[0], shape[1], 0)
			for cell := range l.Heights {
				l.Heights[cell] = source.Int63n(2*depth+1) - depth
			}
			lands = append(lands, l)
		}
	}
	return lands
}

// floodLands are lands with few heights, so that many cells stand just at a level, and with many.
func floodLands() []impl.Land {
	lands := slices.Concat(smallLands(1, 1, 4), smallLands(2, 3, 4), smallLands(3, 2000, 2))
	for k, l := range slices.Concat(randomLands(4, -1, 1), randomLands(5, -9, 9), randomLands(6, -2000, 2000)) {
		if k%7 == 3 {
			lands = append(lands, l)
		}
	}
	return append(lands, flatLand(12, 12, 0), flatLand(12, 12, -2000), flatLand(12, 12, 2000), land(1, 4, -5, -5, 0, -5), land(2, 3, 5, 9, 1, 2, 3, 7))
}

// someCells are cells of a land: all of a small one, and some of a large one.
func someCells(l impl.Land) []int64 {
	many := int64(len(l.Heights))
	if many <= 16 {
		return countingUp(0, many-1)
	}
	return []int64{0, l.Columns - 1, many / 2, many - 1}
}

// someLevels are the limits, some heights of a land, and the levels next to these.
func someLevels(l impl.Land) []int64 {
	levels := []int64{-2000, 2000}
	for _, height := range []int64{l.Heights[0], l.Heights[len(l.Heights)/2], slices.Min(l.Heights), slices.Max(l.Heights), 0} {
		levels = append(levels, height-1, height, height+1)
	}
	slices.Sort(levels)
	return slices.DeleteFunc(slices.Compact(levels), func(level int64) bool { return level < -2000 || level > 2000 })
}

// floodBy tells of each cell by the definition whether it is flooded: one below the level is if it is the cell, or next to one that is.
func floodBy(l impl.Land, cell, level int64) []bool {
	wet := make([]bool, len(l.Heights))
	wet[cell] = l.Heights[cell] < level
	for isMore := wet[cell]; isMore; {
		isMore = false
		for a := range wet {
			for _, b := range []int64{int64(a) - l.Columns, int64(a) - 1, int64(a) + 1, int64(a) + l.Columns} {
				isWet := b >= 0 && b < int64(len(wet)) && areNext(l, int64(a), b) && wet[b]
				if isWet && !wet[a] && l.Heights[a] < level {
					wet[a], isMore = true, true
				}
			}
		}
	}
	return wet
}

// cellsWith are the cells of which something is told, in ascending order.
func cellsWith(told []bool, what bool) []int64 {
	var cells []int64
	for cell, is := range told {
		if is == what {
			cells = append(cells, int64(cell))
		}
	}
	return cells
}

// depthsBy are the depths by the definition.
func depthsBy(l impl.Land, cell, level int64) []int64 {
	depths := make([]int64, len(l.Heights))
	for _, k := range cellsWith(floodBy(l, cell, level), true) {
		depths[k] = level - l.Heights[k]
	}
	return depths
}

// sillsBy are the sills of all cells for each cell by the definition: the greatest height on the way with the least one, where
// ways by one cell more are tried again and again.
func sillsBy(l impl.Land) [][]int64 {
	many := len(l.Heights)
	sills := make([][]int64, many)
	for a := range sills {
		sills[a] = filled(many, math.MaxInt64)
		sills[a][a] = l.Heights[a]
		for b := range many {
			if areNext(l, int64(a), int64(b)) {
				sills[a][b] = max(l.Heights[a], l.Heights[b])
			}
		}
	}
	for by := range many {
		for a := range many {
			for b := range many {
				sills[a][b] = min(sills[a][b], max(sills[a][by], sills[by][b]))
			}
		}
	}
	return sills
}

// orderBy is the order of the cells by the definition.
func orderBy(l impl.Land, cell int64, sills []int64) []int64 {
	order := []int64{cell}
	for len(order) < len(l.Heights) {
		best := int64(-1)
		for next := range int64(len(l.Heights)) {
			isNext := !slices.Contains(order, next) && slices.ContainsFunc(order, func(before int64) bool { return areNext(l, before, next) })
			if isNext && (best < 0 || sills[next] < sills[best]) {
				best = next
			}
		}
		order = append(order, best)
	}
	return order
}

// surfacesBy are the surfaces by the definition: of the sills for the outlets the least one.
func surfacesBy(sills [][]int64, outlets []int64) []int64 {
	surfaces := filled(len(sills), math.MaxInt64)
	for cell := range surfaces {
		for _, outlet := range outlets {
			surfaces[cell] = min(surfaces[cell], sills[cell][outlet])
		}
	}
	return surfaces
}

// pondedBy is the water that stays by the definition.
func pondedBy(l impl.Land, sills [][]int64, outlets []int64) int64 {
	ponded := int64(0)
	for cell, surface := range surfacesBy(sills, outlets) {
		ponded += surface - l.Heights[cell]
	}
	return ponded
}

// raisedBy is the land where some cells are raised to a level.
func raisedBy(l impl.Land, wall []int64, level int64) impl.Land {
	raised := copyOfLand(l)
	for _, cell := range wall {
		raised.Heights[cell] = max(raised.Heights[cell], level)
	}
	return raised
}

// wallSets goes on from a set to all sets with as many more cells behind its last one, but without cell and dry.
func wallSets(cells []int64, set []int64, more int, take func(set []int64)) {
	if more == 0 {
		take(set)
		return
	}
	for k, cell := range cells {
		wallSets(cells[k+1:], append(slices.Clone(set), cell), more-1, take)
	}
}

// wallsBy are the fewest walls by the definition, of some cells: of all sets with as few cells as are enough those with which the
// fewest cells are flooded.
func wallsBy(l impl.Land, cell, dry, level int64, of []int64) [][]int64 {
	of = slices.DeleteFunc(slices.Clone(of), func(k int64) bool { return k == cell || k == dry })
	for many := 0; ; many++ {
		var best [][]int64
		least := math.MaxInt
		wallSets(of, nil, many, func(set []int64) {
			wet := floodBy(raisedBy(l, set, level), cell, level)
			if flooded := len(cellsWith(wet, true)); !wet[dry] && flooded <= least {
				if flooded < least {
					best, least = nil, flooded
				}
				best = append(best, set)
			}
		})
		if best != nil {
			return best
		}
	}
}

// lockNet is what is left of the ways through the cells below a level: each cell is entered at twice its number, and left at one more,
// and how often one can go from one of these places to another one is told by both.
type lockNet struct {
	impl.Land
	left map[[2]int64]int
}

// lockNetOf returns a net where each cell below a level can be passed once.
func lockNetOf(l impl.Land, level int64) lockNet {
	n := lockNet{l, map[[2]int64]int{}}
	for a, height := range l.Heights {
		from := int64(a)
		if height >= level {
			continue
		}
		n.left[[2]int64{2 * from, 2*from + 1}] = 1
		for to := range int64(len(l.Heights)) {
			if areNext(l, from, to) && l.Heights[to] < level {
				n.left[[2]int64{2*from + 1, 2 * to}] = 1
			}
		}
	}
	return n
}

// goOn takes one more way from a place to another one, if there is one, with places that have not been seen.
func (n lockNet) goOn(at, end int64, seen map[int64]bool) bool {
	if at == end {
		return true
	}
	seen[at] = true
	for _, cell := range []int64{at / 2, at/2 - n.Columns, at/2 - 1, at/2 + 1, at/2 + n.Columns} {
		next := 2*cell + 1 - at%2
		if !seen[next] && n.left[[2]int64{at, next}] > 0 && n.goOn(next, end, seen) {
			n.left[[2]int64{at, next}]--
			n.left[[2]int64{next, at}]++
			return true
		}
	}
	return false
}

// stepsFrom are the cells to which ways lead on from a cell.
func (n lockNet) stepsFrom(cell int64) []int64 {
	var steps []int64
	for next := range int64(len(n.Heights)) {
		if next != cell && n.left[[2]int64{2 * next, 2*cell + 1}] > 0 {
			steps = append(steps, next)
		}
	}
	return steps
}

// disjointWays are as many ways below a level from a cell to another one as there can be, which share no other cells.
func disjointWays(l impl.Land, cell, dry, level int64) [][]int64 {
	n := lockNetOf(l, level)
	for n.goOn(2*cell+1, 2*dry, map[int64]bool{}) {
	}
	var ways [][]int64
	for _, at := range n.stepsFrom(cell) {
		way := []int64{cell, at}
		for at != dry {
			at = n.stepsFrom(at)[0]
			way = append(way, at)
		}
		ways = append(ways, way)
	}
	return ways
}

// areWaysBy tells by the definition whether ways are disjoint.
func areWaysBy(l impl.Land, cell, dry, level int64, ways [][]int64) bool {
	times := map[int64]int{cell: 1, dry: 1}
	for _, way := range ways {
		if len(way) < 3 || way[0] != cell || way[len(way)-1] != dry {
			return false
		}
		for k, at := range way {
			if at < 0 || at >= int64(len(l.Heights)) || l.Heights[at] >= level || k > 0 && !areNext(l, way[k-1], at) {
				return false
			}
			if k > 0 && k < len(way)-1 {
				times[at]++
			}
		}
	}
	return !slices.ContainsFunc(slices.Collect(maps.Values(times)), func(n int) bool { return n > 1 })
}

func TestFloodedCells(t *testing.T) {
	row := land(1, 4, -5, -5, 0, -5)
	snake := drawn("....", "xxx.", "....", ".xxx", "....")
	cases := []struct {
		l           impl.Land
		cell, level int64
		wet, safe   []int64
	}{
		{row, 0, 0, []int64{0, 1}, []int64{2, 3}},
		{row, 0, 1, []int64{0, 1, 2, 3}, nil},
		{row, 3, 0, []int64{3}, []int64{0, 1, 2}},
		{row, 3, 1, []int64{0, 1, 2, 3}, nil},
		{row, 1, -4, []int64{0, 1}, []int64{2, 3}},
		// A cell at the level itself is not below it.
		{row, 2, 0, nil, []int64{0, 1, 2, 3}},
		{row, 2, 1, []int64{0, 1, 2, 3}, nil},
		{row, 0, -5, nil, []int64{0, 1, 2, 3}},
		{row, 0, -6, nil, []int64{0, 1, 2, 3}},
		{row, 0, -2000, nil, []int64{0, 1, 2, 3}},
		{row, 0, 2000, []int64{0, 1, 2, 3}, nil},
		{drawn(".o."), 0, 0, []int64{0}, []int64{1, 2}},
		{drawn(".o."), 1, 0, nil, []int64{0, 1, 2}},
		{drawn(".", "o", "."), 2, 0, []int64{2}, []int64{0, 1}},
		{drawn(".o", "o."), 0, 0, []int64{0}, []int64{1, 2, 3}},
		{drawn("..", "o."), 3, 0, []int64{0, 1, 3}, []int64{2}},
		{drawn("x.", ".x"), 1, 0, []int64{1}, []int64{0, 2, 3}},
		{drawn("xx.", ".xx"), 2, 0, []int64{2}, []int64{0, 1, 3, 4, 5}},
		{snake, 0, 0, []int64{0, 1, 2, 3, 7, 8, 9, 10, 11, 12, 16, 17, 18, 19}, []int64{4, 5, 6, 13, 14, 15}},
		{drawn("...", ".o.", "..."), 8, 0, []int64{0, 1, 2, 3, 5, 6, 7, 8}, []int64{4}},
		{drawn("ooo", "o.o", "ooo"), 4, 0, []int64{4}, []int64{0, 1, 2, 3, 5, 6, 7, 8}},
		{land(1, 1, 5), 0, 5, nil, []int64{0}},
		{land(1, 1, 5), 0, 6, []int64{0}, nil},
		{land(1, 1, 2000), 0, 2000, nil, []int64{0}},
		{land(1, 1, -2000), 0, -2000, nil, []int64{0}},
		{flatLand(12, 12, 1999), 143, 2000, countingUp(0, 143), nil},
		{flatLand(12, 12, 2000), 143, 2000, nil, countingUp(0, 143)},
	}
	for _, c := range cases {
		if got, code := impl.FloodedCells(c.l, c.cell, c.level); !slices.Equal(got, c.wet) || code != impl.OK {
			t.Errorf("FloodedCells(%v, %d, %d) = %v, %d", c.l, c.cell, c.level, got, code)
		}
		if got, code := impl.SafeCells(c.l, c.cell, c.level); !slices.Equal(got, c.safe) || code != impl.OK {
			t.Errorf("SafeCells(%v, %d, %d) = %v, %d", c.l, c.cell, c.level, got, code)
		}
	}
}

func TestFloodDepths(t *testing.T) {
	row := land(1, 4, -5, -5, 0, -5)
	cases := []struct {
		l           impl.Land
		cell, level int64
		want        []int64
		volume      int64
	}{
		{row, 0, 1, []int64{6, 6, 1, 6}, 19},
		{row, 0, 0, []int64{5, 5, 0, 0}, 10},
		{row, 3, 0, []int64{0, 0, 0, 5}, 5},
		{row, 2, 0, []int64{0, 0, 0, 0}, 0},
		{row, 0, -4, []int64{1, 1, 0, 0}, 2},
		{row, 0, -5, []int64{0, 0, 0, 0}, 0},
		{row, 0, -2000, []int64{0, 0, 0, 0}, 0},
		{row, 0, 2000, []int64{2005, 2005, 2000, 2005}, 8015},
		{drawn("..", "o."), 0, 0, []int64{1, 1, 0, 1}, 3},
		{land(1, 1, -2000), 0, 2000, []int64{4000}, 4000},
		{flatLand(12, 12, -2000), 0, 2000, filled(144, 4000), 576000},
		{flatLand(12, 12, 2000), 0, 2000, filled(144, 0), 0},
	}
	for _, c := range cases {
		if got, code := impl.FloodDepths(c.l, c.cell, c.level); !slices.Equal(got, c.want) || code != impl.OK {
			t.Errorf("FloodDepths(%v, %d, %d) = %v, %d", c.l, c.cell, c.level, got, code)
		}
		if got, code := impl.FloodVolume(c.l, c.cell, c.level); got != c.volume || code != impl.OK {
			t.Errorf("FloodVolume(%v, %d, %d) = %d, %d", c.l, c.cell, c.level, got, code)
		}
	}
}

// TestFloodsByDefinition holds floods of many lands against the definitions.
func TestFloodsByDefinition(t *testing.T) {
	for _, l := range floodLands() {
		for _, cell := range someCells(l) {
			for _, level := range someLevels(l) {
				wet, depths := floodBy(l, cell, level), depthsBy(l, cell, level)
				if got, code := impl.FloodedCells(l, cell, level); !slices.Equal(got, cellsWith(wet, true)) || code != impl.OK {
					t.Fatalf("FloodedCells(%v, %d, %d) = %v, %d", l, cell, level, got, code)
				}
				if got, code := impl.SafeCells(l, cell, level); !slices.Equal(got, cellsWith(wet, false)) || code != impl.OK {
					t.Fatalf("SafeCells(%v, %d, %d) = %v, %d", l, cell, level, got, code)
				}
				if got, code := impl.FloodDepths(l, cell, level); !slices.Equal(got, depths) || code != impl.OK {
					t.Fatalf("FloodDepths(%v, %d, %d) = %v, %d", l, cell, level, got, code)
				}
				if got, code := impl.FloodVolume(l, cell, level); got != totalOf(depths) || code != impl.OK {
					t.Fatalf("FloodVolume(%v, %d, %d) = %d, %d", l, cell, level, got, code)
				}
			}
		}
	}
}

func TestFloodLevelsAndOrder(t *testing.T) {
	twoByThree := land(2, 3, 5, 9, 1, 2, 3, 7)
	cases := []struct {
		l            impl.Land
		cell         int64
		sills, order []int64
	}{
		{land(1, 4, -5, -5, 0, -5), 0, []int64{-5, -5, 0, 0}, []int64{0, 1, 2, 3}},
		{land(1, 4, -5, -5, 0, -5), 3, []int64{0, 0, 0, -5}, []int64{3, 2, 1, 0}},
		{land(1, 4, -5, -5, 0, -5), 2, []int64{0, 0, 0, 0}, []int64{2, 1, 0, 3}},
		{twoByThree, 3, []int64{5, 9, 7, 2, 3, 7}, []int64{3, 4, 0, 5, 2, 1}},
		{twoByThree, 2, []int64{7, 9, 1, 7, 7, 7}, []int64{2, 5, 4, 3, 0, 1}},
		{twoByThree, 1, []int64{9, 9, 9, 9, 9, 9}, []int64{1, 0, 2, 3, 4, 5}},
		{land(1, 1, 2000), 0, []int64{2000}, []int64{0}},
		{land(1, 1, -2000), 0, []int64{-2000}, []int64{0}},
		// The way around is lower.
		{land(3, 3, 0, 8, 0, 1, 9, 1, 0, 3, 0), 0, []int64{0, 8, 3, 1, 9, 3, 1, 3, 3}, []int64{0, 3, 6, 7, 8, 5, 2, 1, 4}},
		// Behind a high cell, all sills are equal, and the number counts, not the height.
		{land(1, 5, 7, 1, 2, 0, 7), 0, []int64{7, 7, 7, 7, 7}, []int64{0, 1, 2, 3, 4}},
		{land(3, 1, 4, 9, 4), 1, []int64{9, 9, 9}, []int64{1, 0, 2}},
		{land(2, 2, 9, 1, 1, 0), 0, []int64{9, 9, 9, 9}, []int64{0, 1, 2, 3}},
		{land(2, 3, 9, 5, 0, 4, 9, 9), 0, []int64{9, 9, 9, 9, 9, 9}, []int64{0, 1, 2, 3, 4, 5}},
		// A cell that is far away, but low, comes only when one next to it has come.
		{land(2, 3, 0, 3, 0, 1, 2, 4), 0, []int64{0, 3, 3, 1, 2, 4}, []int64{0, 3, 4, 1, 2, 5}},
	}
	for _, c := range cases {
		if got, code := impl.FloodLevels(c.l, c.cell); !slices.Equal(got, c.sills) || code != impl.OK {
			t.Errorf("FloodLevels(%v, %d) = %v, %d", c.l, c.cell, got, code)
		}
		if got, code := impl.FloodOrder(c.l, c.cell); !slices.Equal(got, c.order) || code != impl.OK {
			t.Errorf("FloodOrder(%v, %d) = %v, %d", c.l, c.cell, got, code)
		}
	}
}

// TestSillsByDefinition holds sills and orders of many lands against the definitions.
func TestSillsByDefinition(t *testing.T) {
	for _, l := range floodLands() {
		sills := sillsBy(l)
		for _, cell := range someCells(l) {
			if got, code := impl.FloodLevels(l, cell); !slices.Equal(got, sills[cell]) || code != impl.OK {
				t.Fatalf("FloodLevels(%v, %d) = %v, %d, not %v", l, cell, got, code, sills[cell])
			}
			want := orderBy(l, cell, sills[cell])
			if got, code := impl.FloodOrder(l, cell); !slices.Equal(got, want) || code != impl.OK {
				t.Fatalf("FloodOrder(%v, %d) = %v, %d, not %v", l, cell, got, code, want)
			}
		}
	}
}

// TestFloodedAboveSill is promise 12 for floods: a cell is flooded just at the levels above its sill, not at the sill itself.
func TestFloodedAboveSill(t *testing.T) {
	for _, l := range floodLands() {
		for _, cell := range someCells(l) {
			sills, code := impl.FloodLevels(l, cell)
			if len(sills) != len(l.Heights) || code != impl.OK {
				t.Fatalf("FloodLevels(%v, %d) = %v, %d", l, cell, sills, code)
			}
			levels := someLevels(l)
			for _, sill := range sills[:min(len(sills), 9)] {
				levels = append(levels, max(sill-1, -2000), sill, min(sill+1, 2000))
			}
			for _, level := range levels {
				wet, code := impl.FloodedCells(l, cell, level)
				if code != impl.OK {
					t.Fatalf("FloodedCells(%v, %d, %d) has the code %d", l, cell, level, code)
				}
				for k, sill := range sills {
					if slices.Contains(wet, int64(k)) != (level > sill) {
						t.Fatalf("FloodedCells(%v, %d, %d) = %v, but the sill of %d is %d", l, cell, level, wet, k, sill)
					}
				}
			}
		}
	}
}

func TestLevelReached(t *testing.T) {
	row := land(1, 4, -5, -5, 0, -5)
	cases := []struct {
		l                        impl.Land
		cell, volume, want, code int64
	}{
		{row, 0, 1, -4, impl.OK},
		{row, 0, 2, -4, impl.OK},
		{row, 0, 3, -3, impl.OK},
		{row, 0, 9, 0, impl.OK},
		{row, 0, 10, 0, impl.OK},
		// From the level 0 to 1, the water runs over the sill, and the volume jumps.
		{row, 0, 11, 1, impl.OK},
		{row, 0, 19, 1, impl.OK},
		{row, 0, 20, 2, impl.OK},
		{row, 3, 5, 0, impl.OK},
		{row, 3, 6, 1, impl.OK},
		{row, 2, 1, 1, impl.OK},
		{row, 2, 19, 1, impl.OK},
		{row, 2, 20, 2, impl.OK},
		{row, 0, 8015, 2000, impl.OK},
		{row, 0, 8016, 0, impl.ErrFull},
		{row, 0, 9000, 0, impl.ErrFull},
		{row, 0, 1000000000, 0, impl.ErrFull},
		{row, 0, 1000000001, 0, impl.ErrRange},
		{row, 0, 0, 0, impl.ErrRange},
		{row, 0, -1, 0, impl.ErrRange},
		{row, 0, math.MaxInt64, 0, impl.ErrRange},
		{row, 0, math.MinInt64, 0, impl.ErrRange},
		{row, 4, 1, 0, impl.ErrRange},
		{row, -1, 1, 0, impl.ErrRange},
		{row, -1, 1000000000, 0, impl.ErrRange},
		{land(1, 1, 2000), 0, 1, 0, impl.ErrFull},
		{land(1, 1, 1999), 0, 1, 2000, impl.OK},
		{land(1, 1, 1999), 0, 2, 0, impl.ErrFull},
		{land(1, 1, -2000), 0, 1, -1999, impl.OK},
		{land(1, 2, 2000, -2000), 1, 4000, 2000, impl.OK},
		{land(1, 2, 2000, -2000), 1, 4001, 0, impl.ErrFull},
		{land(1, 2, 2000, -2000), 0, 1, 0, impl.ErrFull},
		{flatLand(12, 12, -2000), 7, 576000, 2000, impl.OK},
		{flatLand(12, 12, -2000), 7, 576001, 0, impl.ErrFull},
		{impl.Land{}, 0, 1, 0, impl.ErrInvalid},
		{land(1, 1, 2001), 1, 0, 0, impl.ErrInvalid},
	}
	for _, c := range cases {
		if got, code := impl.LevelReached(c.l, c.cell, c.volume); got != c.want || code != c.code {
			t.Errorf("LevelReached(%v, %d, %d) = %d, %d", c.l, c.cell, c.volume, got, code)
		}
	}
}

// TestLevelReachedIsLeast has the told level flooded by enough water, and the one below not.
func TestLevelReachedIsLeast(t *testing.T) {
	source := rand.New(rand.NewSource(7))
	for _, l := range floodLands() {
		for _, cell := range someCells(l) {
			most := totalOf(depthsBy(l, cell, 2000))
			volumes := []int64{1, 2, most / 2, most, most + 1, 1 + source.Int63n(most+1)}
			for _, level := range someLevels(l) {
				volume := totalOf(depthsBy(l, cell, level))
				volumes = append(volumes, volume, volume+1)
			}
			for _, volume := range volumes {
				if volume == 0 {
					continue
				}
				level, code := impl.LevelReached(l, cell, volume)
				if volume > most {
					if level != 0 || code != impl.ErrFull {
						t.Fatalf("LevelReached(%v, %d, %d) = %d, %d", l, cell, volume, level, code)
					}
					continue
				}
				isLess := level <= -2000 || totalOf(depthsBy(l, cell, level-1)) < volume
				if code != impl.OK || level > 2000 || !isLess || totalOf(depthsBy(l, cell, level)) < volume {
					t.Fatalf("LevelReached(%v, %d, %d) = %d, %d", l, cell, volume, level, code)
				}
			}
		}
	}
}

func TestSurfaces(t *testing.T) {
	twoByThree := land(2, 3, 5, 9, 1, 2, 3, 7)
	cases := []struct {
		l             impl.Land
		outlets, want []int64
		ponded, code  int64
	}{
		{twoByThree, []int64{3}, []int64{5, 9, 7, 2, 3, 7}, 6, impl.OK},
		{twoByThree, []int64{2, 3}, []int64{5, 9, 1, 2, 3, 7}, 0, impl.OK},
		{twoByThree, []int64{2}, []int64{7, 9, 1, 7, 7, 7}, 11, impl.OK},
		{twoByThree, []int64{0}, []int64{5, 9, 7, 5, 5, 7}, 11, impl.OK},
		{twoByThree, []int64{1}, filled(6, 9), 27, impl.OK},
		{twoByThree, []int64{1, 5}, []int64{7, 9, 7, 7, 7, 7}, 17, impl.OK},
		{twoByThree, []int64{1, 4}, []int64{5, 9, 7, 3, 3, 7}, 7, impl.OK},
		{twoByThree, countingUp(0, 5), twoByThree.Heights, 0, impl.OK},
		{twoByThree, nil, nil, 0, impl.ErrRange},
		{twoByThree, []int64{}, nil, 0, impl.ErrRange},
		{twoByThree, []int64{3, 2}, nil, 0, impl.ErrRange},
		{twoByThree, []int64{3, 3}, nil, 0, impl.ErrRange},
		{twoByThree, []int64{0, 1, 2, 2}, nil, 0, impl.ErrRange},
		{twoByThree, []int64{6}, nil, 0, impl.ErrRange},
		{twoByThree, []int64{-1}, nil, 0, impl.ErrRange},
		{twoByThree, []int64{-1, 0}, nil, 0, impl.ErrRange},
		{twoByThree, []int64{0, 6}, nil, 0, impl.ErrRange},
		{twoByThree, countingUp(0, 6), nil, 0, impl.ErrRange},
		{twoByThree, []int64{math.MinInt64, 3}, nil, 0, impl.ErrRange},
		{twoByThree, []int64{3, math.MaxInt64}, nil, 0, impl.ErrRange},
		{drawn("xxx", "x.x", "xxx"), []int64{0}, filled(9, 1), 2, impl.OK},
		{drawn("xxx", "x.x", "xxx"), []int64{4}, []int64{1, 1, 1, 1, -1, 1, 1, 1, 1}, 0, impl.OK},
		{drawn("xxx", "x.o", "xxx"), []int64{0}, filled(9, 1), 3, impl.OK},
		{drawn("xxx", "x.o", "xxx"), []int64{5}, []int64{1, 1, 1, 1, 0, 0, 1, 1, 1}, 1, impl.OK},
		{land(1, 1, 5), []int64{0}, []int64{5}, 0, impl.OK},
		{flatLand(12, 12, -2000), []int64{77}, filled(144, -2000), 0, impl.OK},
		{flatLand(12, 12, -2000), countingUp(0, 143), filled(144, -2000), 0, impl.OK},
		{flatLand(12, 12, -2000), countingUp(1, 144), nil, 0, impl.ErrRange},
		{impl.Land{}, []int64{0}, nil, 0, impl.ErrInvalid},
		{impl.Land{}, nil, nil, 0, impl.ErrInvalid},
		{land(1, 2, 0, 2001), []int64{1, 0}, nil, 0, impl.ErrInvalid},
	}
	for _, c := range cases {
		if got, code := impl.SurfacesOf(c.l, c.outlets); !slices.Equal(got, c.want) || code != c.code {
			t.Errorf("SurfacesOf(%v, %v) = %v, %d", c.l, c.outlets, got, code)
		}
		if got, code := impl.PondedVolume(c.l, c.outlets); got != c.ponded || code != c.code {
			t.Errorf("PondedVolume(%v, %v) = %d, %d", c.l, c.outlets, got, code)
		}
	}
	// A deep land with one high cell as the only outlet holds as much water as there can be.
	deep := flatLand(12, 12, -2000)
	deep.Heights[5] = 2000
	if got, code := impl.PondedVolume(deep, []int64{5}); got != 572000 || code != impl.OK {
		t.Errorf("the most water that stays is %d, %d", got, code)
	}
}

// someOutlets are lists of outlets: single ones, pairs, several at random, and all.
func someOutlets(l impl.Land, source *rand.Rand) [][]int64 {
	lists := [][]int64{countingUp(0, int64(len(l.Heights))-1)}
	for _, cell := range someCells(l) {
		lists = append(lists, []int64{cell})
		if cell > 0 {
			lists = append(lists, []int64{0, cell})
		}
		var several []int64
		for other := range int64(len(l.Heights)) {
			if other == cell || source.Intn(5) == 0 {
				several = append(several, other)
			}
		}
		lists = append(lists, several)
	}
	return lists
}

// TestSurfacesByDefinition holds surfaces, the water that stays, and the best outlets of many lands against the definitions.
func TestSurfacesByDefinition(t *testing.T) {
	source := rand.New(rand.NewSource(8))
	for _, l := range floodLands() {
		sills := sillsBy(l)
		for _, outlets := range someOutlets(l, source) {
			want := surfacesBy(sills, outlets)
			if got, code := impl.SurfacesOf(l, outlets); !slices.Equal(got, want) || code != impl.OK {
				t.Fatalf("SurfacesOf(%v, %v) = %v, %d, not %v", l, outlets, got, code, want)
			}
			if got, code := impl.PondedVolume(l, outlets); got != pondedBy(l, sills, outlets) || code != impl.OK {
				t.Fatalf("PondedVolume(%v, %v) = %d, %d", l, outlets, got, code)
			}
		}
		if len(l.Heights) > 36 {
			if got, code := impl.BestOutlet(l); got != 0 || code != impl.ErrFull {
				t.Fatalf("BestOutlet(%v) = %d, %d", l, got, code)
			}
			continue
		}
		best := int64(0)
		for cell := range int64(len(l.Heights)) {
			if pondedBy(l, sills, []int64{cell}) < pondedBy(l, sills, []int64{best}) {
				best = cell
			}
		}
		if got, code := impl.BestOutlet(l); got != best || code != impl.OK {
			t.Fatalf("BestOutlet(%v) = %d, %d, not %d", l, got, code, best)
		}
	}
}

func TestBestOutlet(t *testing.T) {
	cases := []struct {
		l          impl.Land
		want, code int64
	}{
		{land(2, 3, 5, 9, 1, 2, 3, 7), 3, impl.OK},
		{land(1, 4, -5, -5, 0, -5), 0, impl.OK},
		{land(1, 4, -5, 0, -5, -5), 2, impl.OK},
		{land(1, 5, 0, 3, 1, 3, 1), 0, impl.OK},
		{land(1, 5, 1, 3, 0, 3, 1), 2, impl.OK},
		{land(1, 5, 1, 3, 1, 3, 0), 4, impl.OK},
		{land(1, 1, 2000), 0, impl.OK},
		{drawn("xxx", "x.x", "xxx"), 4, impl.OK},
		{drawn("ooo", "ooo", "oo."), 8, impl.OK},
		{flatLand(6, 6, 5), 0, impl.OK},
		{flatLand(3, 12, 5), 0, impl.OK},
		{flatLand(12, 3, 5), 0, impl.OK},
		{flatLand(5, 7, 5), 0, impl.OK},
		{flatLand(4, 9, 5), 0, impl.OK},
		{flatLand(4, 10, 5), 0, impl.ErrFull},
		{flatLand(6, 7, 5), 0, impl.ErrFull},
		{flatLand(7, 6, 5), 0, impl.ErrFull},
		{flatLand(12, 12, 5), 0, impl.ErrFull},
		{impl.Land{}, 0, impl.ErrInvalid},
		{flatLand(13, 12, 5), 0, impl.ErrInvalid},
		{land(6, 6, filled(37, 0)...), 0, impl.ErrInvalid},
		{land(6, 7, filled(42, 2001)...), 0, impl.ErrInvalid},
	}
	for _, c := range cases {
		if got, code := impl.BestOutlet(c.l); got != c.want || code != c.code {
			t.Errorf("BestOutlet(%v) = %d, %d", c.l, got, code)
		}
	}
	for k := range int64(36) {
		l := flatLand(6, 6, 5)
		l.Heights[k] = 4
		if got, code := impl.BestOutlet(l); got != k || code != impl.OK {
			t.Errorf("BestOutlet(%v) = %d, %d", l, got, code)
		}
	}
}

func TestFewestWall(t *testing.T) {
	row := land(1, 4, -5, -5, 0, -5)
	cases := []struct {
		l                impl.Land
		cell, dry, level int64
		want             []int64
		code             int64
	}{
		{drawn("...", ".x.", "..."), 0, 8, 0, []int64{1, 3}, impl.OK},
		{drawn("...", ".o.", "..."), 0, 8, 0, []int64{1, 3}, impl.OK},
		{drawn("...", ".o.", "..."), 8, 0, 0, []int64{5, 7}, impl.OK},
		{drawn("...", ".o.", "..."), 2, 6, 0, []int64{1, 5}, impl.OK},
		// Nearest to the cell, wherever it is.
		{drawn("...."), 0, 3, 0, []int64{1}, impl.OK},
		{drawn("...."), 3, 0, 0, []int64{2}, impl.OK},
		{drawn(".", ".", ".", "."), 0, 3, 0, []int64{1}, impl.OK},
		{drawn("......"), 2, 5, 0, []int64{3}, impl.OK},
		{drawn("......"), 2, 0, 0, []int64{1}, impl.OK},
		{drawn("....", "x..x", "...."), 0, 11, 0, []int64{1}, impl.OK},
		{drawn(".....", "..xx.", "....."), 0, 14, 0, []int64{1, 5}, impl.OK},
		{drawn("..xx.", ".....", "..xx."), 0, 14, 0, []int64{6}, impl.OK},
		{drawn("..ooo..", ".......", "..ooo.."), 0, 20, 0, []int64{8}, impl.OK},
		{drawn("..ooo..", ".......", "..ooo.."), 20, 0, 0, []int64{12}, impl.OK},
		{drawn(".x.xx.x.", ".o.oo.o.", "........"), 0, 7, 0, []int64{8}, impl.OK},
		{drawn("...xx...", "........", "...xx..."), 9, 14, 0, []int64{10}, impl.OK},
		{drawn("...xx...", "....x...", "........"), 9, 14, 0, []int64{19}, impl.OK},
		{drawn("...xx...", "...xx...", "........"), 9, 14, 0, []int64{18}, impl.OK},
		// The fewest cells are neither next to the cell nor next to the dry one.
		{drawn("...o...", "...o...", "......."), 1, 5, 0, []int64{16}, impl.OK},
		{drawn(".....o.....", ".....o.....", "..........."), 1, 9, 0, []int64{26}, impl.OK},
		{drawn("...", "...", "...", "xx.", "...", "...", "..."), 0, 18, 0, []int64{8}, impl.OK},
		{drawn("...", "...", "...", ".x.", "...", "...", "..."), 4, 16, 0, []int64{6, 8}, impl.OK},
		{drawn("...x...", ".......", "...x..."), 8, 12, 0, []int64{9}, impl.OK},
		{drawn("...x...", ".......", "......."), 8, 12, 0, []int64{9, 15}, impl.OK},
		{drawn(".......", ".......", "......."), 8, 12, 0, []int64{1, 9, 15}, impl.OK},
		{drawn(".....", ".....", ".....", ".....", "....."), 12, 24, 0, []int64{19, 23}, impl.OK},
		{drawn(".....", ".....", ".....", ".....", "....."), 12, 4, 0, []int64{3, 9}, impl.OK},
		{drawn(".....", ".....", ".....", ".....", "....."), 6, 18, 0, []int64{1, 5, 7, 11}, impl.OK},
		{drawn(".....", ".....", ".....", ".....", "....."), 6, 14, 0, []int64{9, 13, 19}, impl.OK},
		// No cells if dry is not flooded anyway.
		{row, 0, 3, 0, nil, impl.OK},
		{row, 0, 3, 1, []int64{1}, impl.OK},
		{row, 3, 0, 1, []int64{2}, impl.OK},
		{row, 3, 1, 1, []int64{2}, impl.OK},
		{row, 0, 2, 0, nil, impl.OK},
		{row, 0, 2, 1, []int64{1}, impl.OK},
		{row, 2, 0, 0, nil, impl.OK},
		{row, 0, 3, -5, nil, impl.OK},
		{row, 0, 3, -2000, nil, impl.OK},
		{row, 0, 3, 2000, []int64{1}, impl.OK},
		{drawn("o.."), 0, 2, 0, nil, impl.OK},
		{drawn("..o"), 0, 2, 0, nil, impl.OK},
		{drawn(".o."), 0, 2, 0, nil, impl.OK},
		{drawn(".o.", "..."), 0, 2, 0, []int64{3}, impl.OK},
		{drawn(".o.", "o.o"), 0, 2, 0, nil, impl.OK},
		// A way out of the pool to nowhere needs no wall.
		{drawn("....", ".x.x", "...."), 3, 8, 0, []int64{2}, impl.OK},
		{row, 0, 1, 0, nil, impl.ErrState},
		{row, 1, 0, 0, nil, impl.ErrState},
		{row, 0, 0, 0, nil, impl.ErrState},
		{row, 0, 1, -2000, nil, impl.ErrState},
		{row, 2, 3, 0, nil, impl.ErrState},
		{drawn("..", ".."), 0, 2, 0, nil, impl.ErrState},
		{drawn("..", ".."), 0, 3, 0, []int64{1, 2}, impl.OK},
		{drawn("..", ".."), 1, 2, 0, []int64{0, 3}, impl.OK},
		{drawn("...", "..."), 2, 3, 0, []int64{1, 5}, impl.OK},
		{row, 4, 0, 0, nil, impl.ErrRange},
		{row, 0, 4, 0, nil, impl.ErrRange},
		{row, 4, 4, 0, nil, impl.ErrRange},
		{row, -1, 0, 0, nil, impl.ErrRange},
		{row, 0, -1, 0, nil, impl.ErrRange},
		{row, 0, 1, 2001, nil, impl.ErrRange},
		{row, 0, 0, -2001, nil, impl.ErrRange},
		{row, math.MinInt64, math.MinInt64, 0, nil, impl.ErrRange},
		{row, math.MaxInt64, math.MaxInt64, 0, nil, impl.ErrRange},
		{land(1, 1, 0), 0, 0, 1, nil, impl.ErrState},
		{land(1, 1, 0), 0, 1, 1, nil, impl.ErrRange},
		{impl.Land{}, 0, 0, 0, nil, impl.ErrInvalid},
		{land(1, 2, 0, 2001), 0, 1, 5, nil, impl.ErrInvalid},
		{flatLand(13, 1, 0), 20, 20, 2001, nil, impl.ErrInvalid},
	}
	for _, c := range cases {
		if got, code := impl.FewestWall(c.l, c.cell, c.dry, c.level); !slices.Equal(got, c.want) || code != c.code {
			t.Errorf("FewestWall(%v, %d, %d, %d) = %v, %d, not %v, %d", c.l, c.cell, c.dry, c.level, got, code, c.want, c.code)
		}
	}
}

// checkWall has a wall keep a cell dry, and as many disjoint ways as the wall has cells prove that none has fewer.
func checkWall(t *testing.T, l impl.Land, cell, dry, level int64) []int64 {
	t.Helper()
	wall, code := impl.FewestWall(l, cell, dry, level)
	if code != impl.OK || slices.Contains(wall, cell) || slices.Contains(wall, dry) || !slices.IsSorted(wall) {
		t.Fatalf("FewestWall(%v, %d, %d, %d) = %v, %d", l, cell, dry, level, wall, code)
	}
	if wet, code := impl.FloodedCells(raisedBy(l, wall, level), cell, level); slices.Contains(wet, dry) || code != impl.OK {
		t.Fatalf("FewestWall(%v, %d, %d, %d) = %v, with which %v are flooded", l, cell, dry, level, wall, wet)
	}
	ways := disjointWays(l, cell, dry, level)
	if are, code := impl.AreDisjointWays(l, cell, dry, level, ways); !are || code != impl.OK || len(ways) != len(wall) {
		t.Fatalf("FewestWall(%v, %d, %d, %d) = %v, with %v, %v, %d", l, cell, dry, level, wall, ways, are, code)
	}
	return wall
}

// apart goes through all pairs of cells that are neither the same nor next to one another.
func apart(l impl.Land, cells []int64, check func(cell, dry int64)) {
	for _, cell := range cells {
		for _, dry := range cells {
			if cell != dry && !areNext(l, cell, dry) {
				check(cell, dry)
			}
		}
	}
}

// TestWallsAgainstAllSets is promise 12 for walls: of all sets of cells, none with fewer cells is enough, and of those with as many
// just the told one has the fewest cells flooded.
func TestWallsAgainstAllSets(t *testing.T) {
	for _, l := range slices.Concat(smallLands(9, 1, 2), smallLands(10, 3, 1), []impl.Land{flatLand(3, 3, -1), flatLand(3, 4, -1), flatLand(2, 5, -1)}) {
		for _, level := range []int64{0, 1} {
			apart(l, someCells(l), func(cell, dry int64) {
				wall := checkWall(t, l, cell, dry, level)
				best := wallsBy(l, cell, dry, level, countingUp(0, int64(len(l.Heights))-1))
				if len(best) != 1 || !slices.Equal(wall, best[0]) {
					t.Fatalf("FewestWall(%v, %d, %d, %d) = %v, not %v", l, cell, dry, level, wall, best)
				}
			})
		}
	}
}

// meadow returns a land of which about so many of a hundred cells are below the level 0, and some are just at it.
func meadow(source *rand.Rand, rows, columns int64, percent int) impl.Land {
	l := flatLand(rows, columns, 0)
	for cell := range l.Heights {
		if source.Intn(100) < percent {
			l.Heights[cell] = -1 - source.Int63n(3)
		} else {
			l.Heights[cell] = source.Int63n(2)
		}
	}
	return l
}

// TestWallsOfLargeLands is promise 12 for walls as well; where no cell that is still flooded could be in a wall with as few cells, no
// such wall has fewer cells flooded.
func TestWallsOfLargeLands(t *testing.T) {
	source := rand.New(rand.NewSource(11))
	lands := []impl.Land{flatLand(12, 12, -1)}
	for _, percent := range []int{60, 70, 80, 90, 97} {
		lands = append(lands, meadow(source, 12, 12, percent), meadow(source, 5, 12, percent), meadow(source, 12, 7, percent))
	}
	for _, l := range lands {
		many := int64(len(l.Heights))
		apart(l, []int64{source.Int63n(many), source.Int63n(many), source.Int63n(many), 0, many - 1}, func(cell, dry int64) {
			wall := checkWall(t, l, cell, dry, 0)
			if len(wall) == 0 {
				return
			}
			for _, wet := range cellsWith(floodBy(raisedBy(l, wall, 0), cell, 0), true) {
				if ways := disjointWays(raisedBy(l, []int64{wet}, 0), cell, dry, 0); wet != cell && len(ways) < len(wall) {
					t.Fatalf("FewestWall(%v, %d, %d, 0) = %v, but a wall with the cell %d is as good, and nearer", l, cell, dry, wall, wet)
				}
			}
		})
	}
}

func TestAreDisjointWays(t *testing.T) {
	open := drawn("...", ".x.", "...")
	above, below := []int64{0, 1, 2, 5, 8}, []int64{0, 3, 6, 7, 8}
	block := drawn("...", "...", "...")
	cases := []struct {
		l                impl.Land
		cell, dry, level int64
		ways             [][]int64
		want             bool
		code             int64
	}{
		{open, 0, 8, 0, [][]int64{above, below}, true, impl.OK},
		{open, 0, 8, 0, [][]int64{below, above}, true, impl.OK},
		{open, 0, 8, 0, [][]int64{above}, true, impl.OK},
		{open, 0, 8, 0, nil, true, impl.OK},
		{open, 0, 8, 0, [][]int64{}, true, impl.OK},
		{open, 0, 8, 0, [][]int64{nil}, false, impl.OK},
		{open, 0, 8, 0, [][]int64{{}}, false, impl.OK},
		{open, 0, 8, 0, [][]int64{above, nil}, false, impl.OK},
		{open, 0, 8, 0, [][]int64{above, above}, false, impl.OK},
		{open, 0, 8, 0, [][]int64{above, below, above}, false, impl.OK},
		{open, 0, 8, 0, [][]int64{{0, 1, 4, 5, 8}}, false, impl.OK},
		{open, 0, 8, 2, [][]int64{{0, 1, 4, 5, 8}}, true, impl.OK},
		// A cell at the level itself is not below it, be it the first one, the last one or another one.
		{open, 0, 8, 1, [][]int64{{0, 1, 4, 5, 8}}, false, impl.OK},
		{drawn("..o"), 0, 2, 0, [][]int64{{0, 1, 2}}, false, impl.OK},
		{drawn("..o"), 0, 2, 1, [][]int64{{0, 1, 2}}, true, impl.OK},
		{drawn("o.."), 0, 2, 0, [][]int64{{0, 1, 2}}, false, impl.OK},
		{drawn(".o."), 0, 2, 0, [][]int64{{0, 1, 2}}, false, impl.OK},
		{drawn("..."), 0, 2, 0, [][]int64{{0, 1, 2}}, true, impl.OK},
		{drawn("..."), 0, 2, -1, [][]int64{{0, 1, 2}}, false, impl.OK},
		{drawn("..."), 0, 2, -1, nil, true, impl.OK},
		{drawn("..."), 2, 0, 0, [][]int64{{2, 1, 0}}, true, impl.OK},
		{drawn("..."), 2, 0, 0, [][]int64{{0, 1, 2}}, false, impl.OK},
		{drawn("..."), 0, 2, 0, [][]int64{{0, 2}}, false, impl.OK},
		{drawn("..."), 0, 2, 0, [][]int64{{0}}, false, impl.OK},
		{drawn("..."), 0, 2, 0, [][]int64{{0, 1}}, false, impl.OK},
		{drawn("..."), 0, 2, 0, [][]int64{{1, 2}}, false, impl.OK},
		{drawn("..."), 0, 2, 0, [][]int64{{0, 1, 1, 2}}, false, impl.OK},
		{drawn("..."), 0, 2, 0, [][]int64{{0, 1, 2, 1, 2}}, false, impl.OK},
		{drawn("..."), 0, 2, 0, [][]int64{{0, 1, 0, 1, 2}}, false, impl.OK},
		{drawn("..."), 0, 2, 0, [][]int64{{0, 0, 1, 2}}, false, impl.OK},
		{drawn("..."), 0, 2, 0, [][]int64{{0, 1, 2, 2}}, false, impl.OK},
		// Cells that are no cells of the land are no error.
		{drawn("..."), 0, 2, 0, [][]int64{{0, 1, 2, 3}}, false, impl.OK},
		{drawn("..."), 0, 2, 0, [][]int64{{0, -1, 2}}, false, impl.OK},
		{drawn("..."), 0, 2, 0, [][]int64{{-1, 0, 1, 2}}, false, impl.OK},
		{drawn("..."), 0, 2, 0, [][]int64{{0, 3, 2}}, false, impl.OK},
		{drawn("..."), 0, 2, 0, [][]int64{{0, math.MaxInt64, 2}}, false, impl.OK},
		{drawn("..."), 0, 2, 0, [][]int64{{0, math.MinInt64, 2}}, false, impl.OK},
		{drawn("..."), 0, 2, 0, [][]int64{{0, 1, 2}, {3}}, false, impl.OK},
		// The end of a row is not next to the beginning of the next one.
		{drawn("...", "..."), 0, 5, 0, [][]int64{{0, 1, 2, 3, 4, 5}}, false, impl.OK},
		{drawn("...", "..."), 0, 5, 0, [][]int64{{0, 1, 2, 5}, {0, 3, 4, 5}}, true, impl.OK},
		{block, 0, 8, 0, [][]int64{{0, 1, 4, 7, 8}, {0, 3, 6, 7, 8}}, false, impl.OK},
		{block, 0, 8, 0, [][]int64{{0, 1, 2, 5, 8}, {0, 3, 4, 7, 8}}, true, impl.OK},
		{block, 0, 8, 0, [][]int64{{0, 1, 4, 3, 6, 7, 8}}, true, impl.OK},
		{block, 0, 8, 0, [][]int64{{0, 1, 4, 3, 0, 1, 2, 5, 8}}, false, impl.OK},
		{block, 0, 8, 0, [][]int64{{0, 4, 8}}, false, impl.OK},
		{block, 1, 7, 0, [][]int64{{1, 4, 7}, {1, 0, 3, 6, 7}, {1, 2, 5, 8, 7}}, true, impl.OK},
		{block, 1, 7, 0, [][]int64{{1, 4, 7}, {1, 0, 3, 6, 7}, {1, 2, 5, 4, 7}}, false, impl.OK},
		{block, 1, 7, 0, slices.Repeat([][]int64{{1, 4, 7}}, 5000), false, impl.OK},
		{block, 1, 7, 0, [][]int64{append(slices.Repeat([]int64{1, 4}, 5000), 7)}, false, impl.OK},
		{block, 0, 1, 0, nil, false, impl.ErrState},
		{block, 3, 0, 0, nil, false, impl.ErrState},
		{block, 4, 4, 0, [][]int64{{4, 1, 4}}, false, impl.ErrState},
		{block, 0, 1, 0, [][]int64{{0, 3, 4, 1}}, false, impl.ErrState},
		{block, 2, 3, 0, nil, true, impl.OK},
		{block, 9, 9, 0, nil, false, impl.ErrRange},
		{block, 9, 8, 0, nil, false, impl.ErrRange},
		{block, 8, 9, 0, nil, false, impl.ErrRange},
		{block, -1, 0, 0, nil, false, impl.ErrRange},
		{block, 0, -1, 0, nil, false, impl.ErrRange},
		{block, 0, 1, 2001, nil, false, impl.ErrRange},
		{block, 0, 0, -2001, nil, false, impl.ErrRange},
		{impl.Land{}, 0, 0, 0, nil, false, impl.ErrInvalid},
		{land(1, 3, 0, 0, 2001), 0, 2, 5, [][]int64{{0, 1, 2}}, false, impl.ErrInvalid},
		{flatLand(1, 13, 0), 20, 20, 2001, nil, false, impl.ErrInvalid},
	}
	for _, c := range cases {
		if got, code := impl.AreDisjointWays(c.l, c.cell, c.dry, c.level, c.ways); got != c.want || code != c.code {
			t.Errorf("AreDisjointWays(%v, %d, %d, %d, %v) = %v, %d", c.l, c.cell, c.dry, c.level, c.ways, got, code)
		}
	}
}

// shortLists are all lists of up to so many numbers from low to high.
func shortLists(length int, low, high int64) [][]int64 {
	lists := [][]int64{nil}
	for first := 0; length > 0; length-- {
		longest := lists[first:]
		first = len(lists)
		for _, list := range longest {
			for n := low; n <= high; n++ {
				lists = append(lists, append(slices.Clone(list), n))
			}
		}
	}
	return lists
}

// checkWays holds ways against the definition; promise 12: there are no more of them than cells in the fewest wall.
func checkWays(t *testing.T, l impl.Land, cell, dry, level int64, ways [][]int64) bool {
	t.Helper()
	want := areWaysBy(l, cell, dry, level, ways)
	if got, code := impl.AreDisjointWays(l, cell, dry, level, ways); got != want || code != impl.OK {
		t.Fatalf("AreDisjointWays(%v, %d, %d, %d, %v) = %v, %d, not %v", l, cell, dry, level, ways, got, code, want)
	}
	if !want {
		return false
	}
	if wall, code := impl.FewestWall(l, cell, dry, level); len(wall) < len(ways) || code != impl.OK {
		t.Fatalf("FewestWall(%v, %d, %d, %d) = %v, %d, but there are the ways %v", l, cell, dry, level, wall, code, ways)
	}
	return true
}

// TestWaysByDefinition looks at all short lists as ways, alone and in pairs.
func TestWaysByDefinition(t *testing.T) {
	lands := []impl.Land{drawn("..."), drawn(".", ".", "."), drawn("..", ".."), drawn(".o", ".."), drawn(".x", ".."), drawn("o.", ".."), drawn("...", "..."), drawn(".o.", "...")}
	found := map[int]int{}
	for _, l := range lands {
		last := int64(len(l.Heights)) - 1
		apart(l, countingUp(0, last), func(cell, dry int64) {
			for _, level := range []int64{-1, 0, 1} {
				good := [][]int64{nil, {cell, dry}, {cell, cell, dry}}
				for _, list := range shortLists(5, -1, last+1) {
					if checkWays(t, l, cell, dry, level, [][]int64{list}) {
						found[1]++
						good = append(good, list)
					}
				}
				for _, a := range good {
					for _, b := range good {
						if checkWays(t, l, cell, dry, level, [][]int64{a, b}) {
							found[2]++
						}
					}
				}
			}
		})
	}
	if found[1] == 0 || found[2] == 0 {
		t.Errorf("only %v ways have been found", found)
	}
}

// TestWaysWithChanges changes one cell of ways at a time, takes one away, and doubles one.
func TestWaysWithChanges(t *testing.T) {
	source := rand.New(rand.NewSource(12))
	for range 30 {
		l := meadow(source, 4+source.Int63n(4), 4+source.Int63n(4), 85)
		last := int64(len(l.Heights)) - 1
		apart(l, []int64{0, last, source.Int63n(last), source.Int63n(last)}, func(cell, dry int64) {
			ways := disjointWays(l, cell, dry, 0)
			checkWays(t, l, cell, dry, 0, ways)
			for i, way := range ways {
				for k := range way {
					for _, n := range []int64{-1, 0, way[k] - 1, way[k] + 1, way[k] - l.Columns, way[k] + l.Columns, cell, dry, last, last + 1} {
						changed := slices.Clone(ways)
						changed[i] = slices.Clone(way)
						changed[i][k] = n
						checkWays(t, l, cell, dry, 0, changed)
						changed[i] = slices.Insert(slices.Clone(way), k, n)
						checkWays(t, l, cell, dry, 0, changed)
					}
					changed := slices.Clone(ways)
					changed[i] = slices.Delete(slices.Clone(way), k, k+1)
					checkWays(t, l, cell, dry, 0, changed)
				}
				checkWays(t, l, cell, dry, 0, append(slices.Clone(ways), way))
				checkWays(t, l, cell, dry, 0, slices.Delete(slices.Clone(ways), i, i+1))
			}
		})
	}
}

// floodArguments are an argument of each kind for the functions of chapter 11.
type floodArguments struct {
	land                     impl.Land
	cell, dry, level, volume int64
	outlets                  []int64
	ways                     [][]int64
}

// calls are all functions of chapter 11, with their results as texts, and the code at the end.
func (a floodArguments) calls() map[string]string {
	return map[string]string{
		"FloodedCells":    fmt.Sprint(impl.FloodedCells(a.land, a.cell, a.level)),
		"FloodDepths":     fmt.Sprint(impl.FloodDepths(a.land, a.cell, a.level)),
		"FloodVolume":     fmt.Sprint(impl.FloodVolume(a.land, a.cell, a.level)),
		"FloodLevels":     fmt.Sprint(impl.FloodLevels(a.land, a.cell)),
		"FloodOrder":      fmt.Sprint(impl.FloodOrder(a.land, a.cell)),
		"SafeCells":       fmt.Sprint(impl.SafeCells(a.land, a.cell, a.level)),
		"LevelReached":    fmt.Sprint(impl.LevelReached(a.land, a.cell, a.volume)),
		"SurfacesOf":      fmt.Sprint(impl.SurfacesOf(a.land, a.outlets)),
		"PondedVolume":    fmt.Sprint(impl.PondedVolume(a.land, a.outlets)),
		"BestOutlet":      fmt.Sprint(impl.BestOutlet(a.land)),
		"FewestWall":      fmt.Sprint(impl.FewestWall(a.land, a.cell, a.dry, a.level)),
		"AreDisjointWays": fmt.Sprint(impl.AreDisjointWays(a.land, a.cell, a.dry, a.level, a.ways)),
	}
}

// noFloodResults are the zero values of the results of the calls.
var noFloodResults = map[string]string{
	"FloodedCells": "[]", "FloodDepths": "[]", "FloodVolume": "0", "FloodLevels": "[]", "FloodOrder": "[]", "SafeCells": "[]", "LevelReached": "0",
	"SurfacesOf": "[]", "PondedVolume": "0", "BestOutlet": "0", "FewestWall": "[]", "AreDisjointWays": "false",
}

// isInRange tells by the definition of which calls the arguments are in range.
func (a floodArguments) isInRange() map[string]bool {
	isCell := func(n int64) bool { return n >= 0 && n < int64(len(a.land.Heights)) }
	cell, level := isCell(a.cell), a.level >= -2000 && a.level <= 2000
	outlets := len(a.outlets) > 0
	for k, n := range a.outlets {
		outlets = outlets && isCell(n) && (k == 0 || a.outlets[k-1] < n)
	}
	dry := isCell(a.dry)
	return map[string]bool{
		"FloodedCells": cell && level, "FloodDepths": cell && level, "FloodVolume": cell && level, "FloodLevels": cell, "FloodOrder": cell, "SafeCells": cell && level,
		"LevelReached": cell && a.volume >= 1 && a.volume <= 1000000000, "SurfacesOf": outlets, "PondedVolume": outlets, "BestOutlet": true,
		"FewestWall": cell && dry && level, "AreDisjointWays": cell && dry && level,
	}
}

// checkCodes has the first errors come just where they should, and ErrState just where dry is the cell, or next to it.
func (a floodArguments) checkCodes(t *testing.T, isValid bool) {
	t.Helper()
	isInRange := a.isInRange()
	for name, got := range a.calls() {
		checkErrors(t, name, a, got, noFloodResults[name], isValid, isInRange[name])
		isWall := name == "FewestWall" || name == "AreDisjointWays"
		isErrState := isWall && isValid && isInRange[name] && (a.cell == a.dry || areNext(a.land, a.cell, a.dry))
		if (got == noFloodResults[name]+" 6") != isErrState {
			t.Fatalf("%s with %v: %s", name, a, got)
		}
	}
}

// floodNumbers are numbers at and around all limits of the chapter.
var floodNumbers = append([]int64{2, 3, 4, 5, 11, 12, 143, 144, 145, 1999, 2000, 2001, -1999, -2000, -2001, 999999999, 1000000000, 1000000001}, extremes...)

// TestFloodCodes looks at all functions with good and bad arguments of each kind, alone and together.
func TestFloodCodes(t *testing.T) {
	good := []impl.Land{land(1, 1, 0), land(1, 4, -5, -5, 0, -5), land(2, 3, 5, 9, 1, 2, 3, 7), flatLand(12, 12, -1), flatLand(6, 6, 5)}
	for k, l := range slices.Concat(good, badLands()) {
		isValid := k < len(good)
		for _, n := range floodNumbers {
			for _, cell := range []int64{0, 1, 2, n} {
				for _, dry := range []int64{0, 3, 5, n} {
					for _, level := range []int64{-1, 0, 2001, n} {
						floodArguments{land: l, cell: cell, dry: dry, level: level, volume: n, outlets: []int64{n}}.checkCodes(t, isValid)
					}
				}
			}
			for _, outlets := range [][]int64{nil, {}, {0}, {0, n}, {n, 3}, {0, 1, 2, n}, {n, n}, filled(200, n)} {
				floodArguments{land: l, volume: 5, outlets: outlets, ways: [][]int64{outlets}}.checkCodes(t, isValid)
			}
		}
	}
}

// withGuards returns the arguments with marks in the unused capacity of their lists, and a function that fails if one of
// the lists, or one of the marks, has been changed.
func (a floodArguments) withGuards(t *testing.T) (floodArguments, func()) {
	t.Helper()
	var checks []func()
	guard := func(list []int64) []int64 {
		copied, unchanged := guarded(t, list, spareMark)
		checks = append(checks, unchanged)
		return copied
	}
	a.land.Heights, a.outlets = guard(a.land.Heights), guard(a.outlets)
	var backing [][]int64
	for _, way := range append(slices.Clone(a.ways), []int64{spareMark}, []int64{spareMark}) {
		backing = append(backing, guard(way))
	}
	a.ways = backing[:len(a.ways)]
	before := slices.Clone(backing)
	return a, func() {
		t.Helper()
		for _, unchanged := range checks {
			unchanged()
		}
		if !slices.EqualFunc(backing, before, slices.Equal[[]int64]) {
			t.Fatalf("%v has been changed to %v", before, backing)
		}
	}
}

// withCopies returns the arguments with copies of their lists, which have no unused capacity.
func (a floodArguments) withCopies() floodArguments {
	a.land, a.outlets = copyOfLand(a.land), slices.Clip(slices.Clone(a.outlets))
	var ways [][]int64
	for _, way := range a.ways {
		ways = append(ways, slices.Clip(slices.Clone(way)))
	}
	a.ways = ways
	return a
}

// floodRuns are arguments of all kinds, and whether their lands are valid.
func floodRuns() map[bool][]floodArguments {
	source := rand.New(rand.NewSource(13))
	runs := map[bool][]floodArguments{}
	for _, l := range slices.Concat(smallLands(14, 1, 2), []impl.Land{flatLand(12, 12, -1), meadow(source, 12, 12, 80), meadow(source, 6, 6, 80), land(1, 4, -5, -5, 0, -5)}) {
		last := int64(len(l.Heights)) - 1
		for _, cell := range []int64{-1, 0, last / 2, last, last + 1} {
			for _, dry := range []int64{0, 2, last} {
				a := floodArguments{land: l, cell: cell, dry: dry, level: source.Int63n(4) - 1, volume: 1 + source.Int63n(20), outlets: someOutlets(l, source)[source.Intn(3)]}
				if cell >= 0 && cell <= last && dry <= last && cell != dry && !areNext(l, cell, dry) {
					a.ways = disjointWays(l, cell, dry, a.level)
				}
				runs[true] = append(runs[true], a)
			}
		}
	}
	for _, l := range badLands() {
		runs[false] = append(runs[false], floodArguments{land: l, volume: 5, outlets: []int64{0, 1}, ways: [][]int64{{0, 1, 2}}}, floodArguments{land: l, cell: 5, dry: -7, level: 2001})
	}
	return runs
}

// TestFloodFunctionsArePure is promise 1 for all functions of chapter 11: they return, change nothing, and give the same
// once more.
func TestFloodFunctionsArePure(t *testing.T) {
	for isValid, runs := range floodRuns() {
		for _, a := range runs {
			checkCallsPure(t, a)
			a.checkCodes(t, isValid)
		}
	}
}

// TestFloodResultsAreNew is promise 1 as well: no result shares memory with an argument or with another one.
func TestFloodResultsAreNew(t *testing.T) {
	for _, runs := range floodRuns() {
		for _, a := range runs {
			with, unchanged := a.withGuards(t)
			l, cell, level := with.land, with.cell, with.level
			for _, call := range []func() ([]int64, int64){
				func() ([]int64, int64) { return impl.FloodedCells(l, cell, level) },
				func() ([]int64, int64) { return impl.SafeCells(l, cell, level) },
				func() ([]int64, int64) { return impl.FloodDepths(l, cell, level) },
				func() ([]int64, int64) { return impl.FloodLevels(l, cell) },
				func() ([]int64, int64) { return impl.FloodOrder(l, cell) },
				func() ([]int64, int64) { return impl.SurfacesOf(l, with.outlets) },
				func() ([]int64, int64) { return impl.FewestWall(l, cell, with.dry, level) },
			} {
				checkFresh(t, func() []int64 { list, _ := call(); return list }, -spareMark, unchanged)
			}
		}
	}
}

// TestOneListForHeightsAndCells gives the same memory to a function as heights, as outlets and as a way.
func TestOneListForHeightsAndCells(t *testing.T) {
	for _, list := range append(oddLists(), countingUp(0, 11), []int64{0, 1, 2}, []int64{0}, []int64{2, 1, 0}) {
		l := land(1, int64(len(list)), list...)
		isValid := len(list) >= 1 && len(list) <= 12 && slices.Min(list) >= -2000 && slices.Max(list) <= 2000
		a := floodArguments{land: l, dry: 2, level: 9, volume: 3, outlets: list, ways: [][]int64{list}}
		checkOneList(t, a, list)
		a.checkCodes(t, isValid)
	}
}
