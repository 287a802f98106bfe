package tests

import (
	"math"
	"math/rand"
	"slices"
	"testing"

	"loop.example/g01220/impl"
)

// at makes a list of cells of their columns and rows, one behind the other.
func at(numbers ...int) [][2]int {
	var cells [][2]int
	for pair := range slices.Chunk(numbers, 2) {
		cells = append(cells, [2]int{pair[0], pair[1]})
	}
	return cells
}

func compareLists(a, b [][2]int) int {
	return slices.CompareFunc(a, b, func(a, b [2]int) int { return a[1]*6 + a[0] - b[1]*6 - b[0] })
}

// shiftedTo takes a cell in 0..5, 0..5.
func shiftedTo(stamp impl.Sheet, cell [2]int) impl.Sheet {
	return gridOf(stamp).moved(cell[0], cell[1]).sheet()
}

func inkedBy(stamp impl.Sheet, cells [][2]int) impl.Sheet {
	all := white
	for _, cell := range cells {
		all = either(all, shiftedTo(stamp, cell))
	}
	return all
}

func openBy(stamp, target impl.Sheet) [][2]int { return gridOf(shrunkBy(target, stamp)).cells() }

func canInkBy(stamp, target impl.Sheet) bool {
	return inkedBy(stamp, openBy(stamp, target)) == target
}

// A mask has the cells of a sheet as digits.
func maskOf(s impl.Sheet) uint64 {
	var mask uint64
	for i, cell := range allCells() {
		if gridOf(s)[cell[1]][cell[0]] {
			mask |= 1 << i
		}
	}
	return mask
}

func masksOf(stamp impl.Sheet, cells [][2]int) []uint64 {
	masks := make([]uint64, len(cells))
	for i, cell := range cells {
		masks[i] = maskOf(shiftedTo(stamp, cell))
	}
	return masks
}

// coversBy tries all lists of n open cells, in order, and gives the first one that makes the target black, and how many do.
func coversBy(stamp, target impl.Sheet, n int) ([][2]int, int) {
	open, all := openBy(stamp, target), maskOf(target)
	masks := masksOf(stamp, open)
	places := make([]int, n)
	var first [][2]int
	count := 0
	var try func(k, from int, inked uint64)
	try = func(k, from int, inked uint64) {
		if k < n {
			for i := from; i < len(open); i++ {
				places[k] = i
				try(k+1, i+1, inked|masks[i])
			}
			return
		}
		if inked != all {
			return
		}
		if count == 0 {
			for _, i := range places {
				first = append(first, open[i])
			}
		}
		count++
	}
	try(0, 0, 0)
	return first, count
}

// shortestBy gives the first one of the covers with the fewest cells, and how many have as few; none if there are no covers.
func shortestBy(stamp, target impl.Sheet) ([][2]int, int) {
	for n := range 6 {
		if first, count := coversBy(stamp, target, n); count > 0 {
			return first, count
		}
	}
	return nil, 0
}

func greedyBy(stamp, target impl.Sheet) [][2]int {
	var cells [][2]int
	for left := target; left != white; left = without(left, inkedBy(stamp, cells)) {
		most, best := 0, [2]int{}
		for _, cell := range openBy(stamp, target) {
			if gain := sizeOf(left) - sizeOf(without(left, shiftedTo(stamp, cell))); gain > most {
				most, best = gain, cell
			}
		}
		cells = append(cells, best)
	}
	return cells
}

func neededBy(stamp, target impl.Sheet) [][2]int {
	var needed [][2]int
	open := openBy(stamp, target)
	for _, cell := range open {
		others := slices.DeleteFunc(slices.Clone(open), func(other [2]int) bool { return other == cell })
		if inkedBy(stamp, others) != target {
			needed = append(needed, cell)
		}
	}
	return needed
}

// apartBy tries all lists of open cells, at most twelve, and gives all tilings, in their order, and how many cells are apart at most.
func apartBy(stamp, target impl.Sheet) ([][][2]int, int) {
	open, all := openBy(stamp, target), maskOf(target)
	masks := masksOf(stamp, open)
	var tilings [][][2]int
	most := 0
lists:
	for chosen := range 1 << len(open) {
		var list [][2]int
		var inked uint64
		for i, cell := range open {
			if chosen>>i&1 == 0 {
				continue
			}
			if inked&masks[i] != 0 {
				continue lists
			}
			inked |= masks[i]
			list = append(list, cell)
		}
		most = max(most, len(list))
		if inked == all {
			tilings = append(tilings, list)
		}
	}
	slices.SortFunc(tilings, compareLists)
	return tilings, most
}

// periodicStamps are kept by some shift, so that several cells give the same shifted stamp.
func periodicStamps() []impl.Sheet {
	return []impl.Sheet{sheet(9), sheet(0, 18), sheet(1, 0, 0, 1), sheet(9, 0, 0, 9), sheet(1, 0, 0, 8), sheet(21), sheet(63), sheet(1, 1, 1, 1, 1, 1), sheet(27), sheet(1, 0, 1, 0, 1), sheet(1, 2, 4, 8, 16, 32), sheet(63, 63), sheet(21, 42, 21, 42, 21, 42)}
}

func coverStamps() []impl.Sheet {
	wide := []impl.Sheet{sheet(7, 7, 7), sheet(15, 15), sheet(63, 1, 1, 1, 1, 1), sheet(31, 17, 17, 17, 31), sheet(15, 15, 15, 15), sheet(27, 27, 0, 27, 27)}
	return slices.Concat(edgeStamps(), periodicStamps(), wide)
}

// A series of lists of presses, by a fixed series of numbers.
func someLists(n int) [][][2]int {
	source := rand.New(rand.NewSource(6))
	var lists [][][2]int
	for i := range n {
		var cells [][2]int
		for range 1 + i%8 {
			cells = append(cells, [2]int{source.Intn(6), source.Intn(6)})
		}
		lists = append(lists, cells)
	}
	return lists
}

// coverTargets gives the white and the full sheet, what lists of presses make, the same with one cell more or less, and others.
func coverTargets(stamp impl.Sheet) []impl.Sheet {
	all := append(someSheets(4)[44:], white, full, holed, unit, uneven, stamp)
	for i, cells := range someLists(24) {
		inked := inkedBy(stamp, cells)
		all = append(all, inked)
		if i%4 == 0 {
			all = append(all, differ(inked, oneCell(cells[0])))
		}
	}
	return all
}

// smallTargets are those with at most as many cells as tilings are asked for, some of them made by presses that are apart.
func smallTargets(stamp impl.Sheet) []impl.Sheet {
	all := append(coverTargets(stamp), sheet(63), sheet(63, 63), sheet(15, 15, 15), sheet(7, 7, 7, 7), sheet(9, 9, 9, 9, 9, 9), sheet(21, 21, 21, 21), sheet(51, 51, 51), sheet(33, 0, 63, 0, 0, 33))
	for _, cells := range someLists(40) {
		inked := white
		for _, cell := range cells {
			if more := shiftedTo(stamp, cell); without(more, inked) == more {
				inked = either(inked, more)
				all = append(all, inked)
			}
		}
	}
	return slices.DeleteFunc(all, func(s impl.Sheet) bool { return sizeOf(s) > 12 })
}

func TestLimitsOfCovers(t *testing.T) {
	if impl.MaxCover != 5 || impl.MaxTiles != 12 {
		t.Error("MaxCover and MaxTiles", impl.MaxCover, impl.MaxTiles)
	}
}

// A listing is a row of a test for a function that gives cells for a stamp and a target.
type listing struct {
	stamp, target impl.Sheet
	want          [][2]int
}

type cellsCall func(impl.Sheet, impl.Sheet) ([][2]int, bool)

func checkListings(t *testing.T, name string, call cellsCall, rows []listing) {
	t.Helper()
	for _, c := range rows {
		if got, ok := call(c.stamp, c.target); !ok || !slices.Equal(got, c.want) {
			t.Errorf("%s(%v, %v) = %v, %v, not %v", name, c.stamp, c.target, got, ok, c.want)
		}
	}
}

func checkNoCells(t *testing.T, name string, call cellsCall, stamp, target impl.Sheet) {
	t.Helper()
	if got, ok := call(stamp, target); ok || len(got) != 0 {
		t.Errorf("%s(%v, %v) = %v, %v", name, stamp, target, got, ok)
	}
}

func checkNoNumber(t *testing.T, name string, call func(impl.Sheet, impl.Sheet) (int, bool), stamp, target impl.Sheet) {
	t.Helper()
	if n, ok := call(stamp, target); ok || n != 0 {
		t.Errorf("%s(%v, %v) = %d, %v", name, stamp, target, n, ok)
	}
}

func TestOpenCells(t *testing.T) {
	checkListings(t, "OpenCells", impl.OpenCells, []listing{
		{white, white, allCells()}, {white, unit, allCells()}, {white, full, allCells()}, {unit, white, nil}, {full, white, nil}, {sheet(9), white, nil},
		{unit, full, allCells()}, {full, full, allCells()}, {full, holed, nil}, {holed, full, allCells()}, {holed, holed, at(0, 0)}, {unit, uneven, gridOf(uneven).cells()},
		{sheet(3), sheet(7), at(0, 0, 1, 0)}, {sheet(3), sheet(5), nil}, {sheet(3), sheet(3, 1), at(0, 0)}, {sheet(3), sheet(33), at(5, 0)}, {sheet(33), sheet(3), at(1, 0)},
		{sheet(0, 0, 0, 0, 0, 32), unit, at(1, 1)}, {sheet(1, 1), sheet(1, 0, 0, 0, 0, 1), at(0, 5)}, {sheet(3, 3), sheet(33, 0, 0, 0, 0, 33), at(5, 5)},
		{sheet(9), sheet(9), at(0, 0, 3, 0)}, {sheet(63), sheet(0, 63), at(0, 1, 1, 1, 2, 1, 3, 1, 4, 1, 5, 1)}, {sheet(3), sheet(7, 3, 0, 0, 0, 48), at(0, 0, 1, 0, 0, 1, 4, 5)},
	})
	for _, stamp := range coverStamps() {
		for _, target := range coverTargets(stamp) {
			want := openBy(stamp, target)
			if got, ok := impl.OpenCells(stamp, target); !ok || !slices.Equal(got, want) {
				t.Fatalf("OpenCells(%v, %v) = %v, %v, not %v", stamp, target, got, ok, want)
			}
		}
	}
}

func TestCanInk(t *testing.T) {
	for _, c := range []struct {
		stamp, target impl.Sheet
		want          bool
	}{
		{white, white, true}, {white, unit, false}, {white, full, false}, {unit, white, true}, {full, white, true}, {unit, full, true}, {unit, uneven, true}, {full, full, true},
		{full, holed, false}, {full, unit, false}, {sheet(3), full, true}, {holed, full, true}, {sheet(3), sheet(7), true}, {sheet(3), sheet(3, 1), false}, {sheet(3), sheet(5), false},
		{sheet(3), sheet(33), true}, {sheet(0, 0, 0, 0, 0, 32), uneven, true}, {sheet(9), sheet(9), true}, {sheet(9), sheet(11), false}, {sheet(63), sheet(63, 0, 63), true}, {sheet(63), holed, false},
	} {
		if can, ok := impl.CanInk(c.stamp, c.target); !ok || can != c.want {
			t.Errorf("CanInk(%v, %v) = %v, %v", c.stamp, c.target, can, ok)
		}
	}
	both := map[bool]int{}
	for _, stamp := range coverStamps() {
		for _, target := range coverTargets(stamp) {
			can, ok := impl.CanInk(stamp, target)
			if !ok || can != canInkBy(stamp, target) {
				t.Fatalf("CanInk(%v, %v) = %v, %v", stamp, target, can, ok)
			}
			both[can]++
		}
	}
	if both[true] < 500 || both[false] < 500 {
		t.Errorf("CanInk is true for %d targets and false for %d", both[true], both[false])
	}
}

// If any list of presses makes just the target black, then those at all open cells do, and the list has no others.
func TestOpenCellsMakeWhatAnyListMakes(t *testing.T) {
	lists := append(someLists(60), nil, allCells())
	for i, cell := range allCells() {
		for _, other := range allCells()[i:] {
			lists = append(lists, [][2]int{cell, other})
		}
	}
	for _, stamp := range coverStamps() {
		for _, cells := range lists {
			target, one := impl.InkAll(stamp, cells)
			can, two := impl.CanInk(stamp, target)
			open, three := impl.OpenCells(stamp, target)
			all, four := impl.InkAll(stamp, open)
			if !one || !two || !three || !four || !can || all != target {
				t.Fatalf("presses of %v at %v make %v, and at the open cells %v: %v", stamp, cells, target, all, can)
			}
			for _, cell := range cells {
				if !slices.Contains(open, cell) {
					t.Fatalf("%v is not open for %v and %v", cell, stamp, target)
				}
			}
		}
	}
}

func TestInkAll(t *testing.T) {
	for _, c := range []struct {
		stamp impl.Sheet
		cells [][2]int
		want  impl.Sheet
	}{
		{unit, nil, white}, {white, nil, white}, {full, [][2]int{}, white}, {white, allCells(), white}, {white, at(3, 4), white}, {full, at(3, 4), full}, {unit, allCells(), full},
		{unit, at(0, 0), unit}, {unit, at(5, 5), sheet(0, 0, 0, 0, 0, 32)}, {unit, at(2, 1, 0, 0, 1, 0), sheet(3, 4)}, {unit, at(0, 0, 0, 0, 0, 0), unit},
		{sheet(3), at(0, 0, 1, 0), sheet(7)}, {sheet(3), at(1, 0, 0, 0, 1, 0), sheet(7)}, {sheet(3), at(5, 0), sheet(33)}, {sheet(1, 1), at(0, 5), sheet(1, 0, 0, 0, 0, 1)},
		{sheet(3, 3), at(5, 5), sheet(33, 0, 0, 0, 0, 33)}, {sheet(0, 0, 0, 0, 0, 32), at(1, 1), unit}, {sheet(9), at(0, 0, 3, 0), sheet(9)}, {sheet(5), at(1, 2, 0, 2), sheet(0, 0, 15)},
	} {
		if got, ok := impl.InkAll(c.stamp, c.cells); !ok || got != c.want {
			t.Errorf("InkAll(%v, %v) = %v, %v, not %v", c.stamp, c.cells, got, ok, c.want)
		}
	}
	for _, stamp := range coverStamps() {
		for _, cells := range append(someLists(80), slices.Repeat(allCells(), 3)) {
			want := white
			for _, cell := range cells {
				want, _ = impl.InkAt(want, stamp, cell)
			}
			if got, ok := impl.InkAll(stamp, cells); !ok || got != want || got != inkedBy(stamp, cells) {
				t.Fatalf("InkAll(%v, %v) = %v, %v, not %v", stamp, cells, got, ok, want)
			}
		}
	}
}

// A counted row of a test has the first one of some lists, and how many there are.
type counted struct {
	stamp, target impl.Sheet
	first         [][2]int
	many          int
}

func TestFirstCoverAndCountCovers(t *testing.T) {
	for _, c := range []counted{
		{white, white, nil, 1}, {unit, white, nil, 1}, {full, white, nil, 1}, {sheet(9), white, nil, 1}, {full, full, at(0, 0), 36}, {holed, full, at(0, 0, 1, 0), 630}, {holed, holed, at(0, 0), 1},
		{unit, unit, at(0, 0), 1}, {sheet(2), unit, at(5, 0), 1}, {unit, uneven, gridOf(uneven).cells(), 1}, {unit, sheet(31), at(0, 0, 1, 0, 2, 0, 3, 0, 4, 0), 1},
		{unit, sheet(3, 0, 0, 4, 0, 33), at(0, 0, 1, 0, 2, 3, 0, 5, 5, 5), 1}, {sheet(3), sheet(3), at(0, 0), 1}, {sheet(3), sheet(7), at(0, 0, 1, 0), 1}, {sheet(3), sheet(15), at(0, 0, 2, 0), 1},
		{sheet(3), sheet(31), at(0, 0, 1, 0, 3, 0), 2}, {sheet(3), sheet(63), at(0, 0, 2, 0, 4, 0), 2}, {sheet(7), sheet(63), at(0, 0, 3, 0), 3}, {sheet(3), sheet(33), at(5, 0), 1},
		{sheet(3), sheet(59), at(0, 0, 3, 0, 4, 0), 2}, {sheet(33), sheet(3), at(1, 0), 1}, {sheet(1, 1), sheet(1, 0, 0, 0, 0, 1), at(0, 5), 1}, {sheet(9), sheet(9), at(0, 0), 2},
		{sheet(9), sheet(63), at(0, 0, 1, 0, 2, 0), 8}, {sheet(63), sheet(63, 0, 63), at(0, 0, 0, 2), 36}, {sheet(63), sheet(63, 63, 63, 63, 63), at(0, 0, 0, 1, 0, 2, 0, 3, 0, 4), 7776},
		{sheet(63, 63), full, at(0, 0, 0, 2, 0, 4), 432}, {sheet(7, 7, 7), full, at(0, 0, 3, 0, 0, 3, 3, 3), 45}, {sheet(21, 42, 21, 42, 21, 42), full, at(0, 0, 1, 0), 324},
	} {
		first, one := impl.FirstCover(c.stamp, c.target)
		many, two := impl.CountCovers(c.stamp, c.target)
		if !one || !two || !slices.Equal(first, c.first) || many != c.many {
			t.Errorf("%v with %v: FirstCover %v, %v, not %v, and CountCovers %d, %v, not %d", c.target, c.stamp, first, one, c.first, many, two, c.many)
		}
	}
}

func TestNoCovers(t *testing.T) {
	for _, c := range [][2]impl.Sheet{
		{white, unit}, {white, full}, {white, uneven}, {full, holed}, {full, unit}, {sheet(3), sheet(5)}, {sheet(3), unit}, {sheet(3), sheet(3, 1)}, {sheet(3), sheet(15, 0, 1)}, {sheet(9), sheet(11)},
		{unit, sheet(63)}, {unit, sheet(31, 1)}, {unit, full}, {sheet(63), full}, {sheet(3), holed}, {sheet(3, 3), full}, {sheet(9), sheet(63, 63)}, {sheet(2), sheet(9, 9, 9)},
	} {
		checkNoCells(t, "FirstCover", impl.FirstCover, c[0], c[1])
		checkNoNumber(t, "CountCovers", impl.CountCovers, c[0], c[1])
	}
}

func TestCoversAreTheShortestAndTheFirst(t *testing.T) {
	lengths, failed := map[int]int{}, map[bool]int{}
	for _, stamp := range coverStamps() {
		for _, target := range coverTargets(stamp) {
			want, many := shortestBy(stamp, target)
			first, one := impl.FirstCover(stamp, target)
			n, two := impl.CountCovers(stamp, target)
			if one != (many > 0) || two != one || n != many || !slices.Equal(first, want) {
				t.Fatalf("%v with %v: FirstCover %v, %v, not %v, and CountCovers %d, %v, not %d", target, stamp, first, one, want, n, two, many)
			}
			if one {
				lengths[len(first)]++
			} else {
				failed[canInkBy(stamp, target)]++
			}
		}
	}
	for n := range 6 {
		if lengths[n] < 30 {
			t.Errorf("just %d targets of the test have covers with %d cells", lengths[n], n)
		}
	}
	if failed[true] < 30 || failed[false] < 30 {
		t.Errorf("%d targets of the test would need more cells, %d have no list at all", failed[true], failed[false])
	}
}

func TestGreedyCover(t *testing.T) {
	checkListings(t, "GreedyCover", impl.GreedyCover, []listing{
		{white, white, nil}, {unit, white, nil}, {full, white, nil}, {unit, uneven, gridOf(uneven).cells()}, {unit, full, allCells()}, {full, full, at(0, 0)}, {holed, full, at(0, 0, 1, 0)},
		{sheet(3), sheet(7), at(0, 0, 1, 0)}, {sheet(3), sheet(7, 3), at(0, 0, 0, 1, 1, 0)}, {sheet(3), sheet(31), at(0, 0, 2, 0, 3, 0)}, {sheet(3), sheet(63), at(0, 0, 2, 0, 4, 0)},
		{sheet(3), sheet(33), at(5, 0)}, {sheet(3), sheet(35), at(0, 0, 5, 0)}, {sheet(1, 1), sheet(1, 0, 0, 0, 0, 1), at(0, 5)}, {sheet(9), sheet(63), at(0, 0, 1, 0, 2, 0)},
		{sheet(63), full, at(0, 0, 0, 1, 0, 2, 0, 3, 0, 4, 0, 5)}, {unit, sheet(63), at(0, 0, 1, 0, 2, 0, 3, 0, 4, 0, 5, 0)}, {sheet(2), sheet(33), at(4, 0, 5, 0)},
	})
	for _, c := range [][2]impl.Sheet{{white, unit}, {white, full}, {full, holed}, {sheet(3), sheet(5)}, {sheet(3), sheet(3, 1)}, {sheet(9), sheet(11)}, {sheet(63), uneven}} {
		checkNoCells(t, "GreedyCover", impl.GreedyCover, c[0], c[1])
	}
	for _, stamp := range coverStamps() {
		for _, target := range coverTargets(stamp) {
			if !canInkBy(stamp, target) {
				checkNoCells(t, "GreedyCover", impl.GreedyCover, stamp, target)
				continue
			}
			want := greedyBy(stamp, target)
			if got, ok := impl.GreedyCover(stamp, target); !ok || !slices.Equal(got, want) {
				t.Fatalf("GreedyCover(%v, %v) = %v, %v, not %v", stamp, target, got, ok, want)
			}
		}
	}
}

func TestNeededCells(t *testing.T) {
	checkListings(t, "NeededCells", impl.NeededCells, []listing{
		{white, white, nil}, {unit, white, nil}, {full, white, nil}, {unit, full, allCells()}, {unit, uneven, gridOf(uneven).cells()}, {full, full, nil}, {holed, full, nil}, {holed, holed, at(0, 0)},
		{sheet(3), sheet(3), at(0, 0)}, {sheet(3), sheet(7), at(0, 0, 1, 0)}, {sheet(3), sheet(15), at(0, 0, 2, 0)}, {sheet(3), sheet(31), at(0, 0, 3, 0)}, {sheet(3), sheet(63), nil},
		{sheet(3), sheet(33), at(5, 0)}, {sheet(3), sheet(51), at(0, 0, 4, 0)}, {sheet(9), sheet(9), nil}, {sheet(63), sheet(63), nil}, {sheet(2), sheet(1, 1), at(5, 0, 5, 1)}, {sheet(1, 1), sheet(1, 1, 0, 0, 0, 1), at(0, 0, 0, 5)},
	})
	for _, c := range [][2]impl.Sheet{{white, unit}, {white, full}, {full, holed}, {sheet(3), sheet(5)}, {sheet(3), sheet(3, 1)}, {sheet(9), sheet(11)}, {sheet(63), uneven}} {
		checkNoCells(t, "NeededCells", impl.NeededCells, c[0], c[1])
	}
	for _, stamp := range coverStamps() {
		for _, target := range coverTargets(stamp) {
			if !canInkBy(stamp, target) {
				checkNoCells(t, "NeededCells", impl.NeededCells, stamp, target)
				continue
			}
			want := neededBy(stamp, target)
			if got, ok := impl.NeededCells(stamp, target); !ok || !slices.Equal(got, want) {
				t.Fatalf("NeededCells(%v, %v) = %v, %v, not %v", stamp, target, got, ok, want)
			}
		}
	}
}

// Presses at the cells of a cover make just the target black, and no cover found first has more cells than a greedy one, nor lacks a needed one.
func TestCoversMakeJustTheTargetBlack(t *testing.T) {
	longer := 0
	for _, stamp := range coverStamps() {
		for _, target := range coverTargets(stamp) {
			can, _ := impl.CanInk(stamp, target)
			first, one := impl.FirstCover(stamp, target)
			greedy, two := impl.GreedyCover(stamp, target)
			needed, three := impl.NeededCells(stamp, target)
			if two != can || three != can || one && !can || one != can && len(greedy) <= impl.MaxCover {
				t.Fatalf("%v with %v: %v, FirstCover %v, GreedyCover %v, NeededCells %v", target, stamp, can, first, greedy, needed)
			}
			if !one {
				continue
			}
			for _, cells := range [][][2]int{first, greedy} {
				inked := white
				for _, cell := range cells {
					inked, _ = impl.InkAt(inked, stamp, cell)
				}
				if inked != target {
					t.Fatalf("presses of %v at %v make %v, not %v", stamp, cells, inked, target)
				}
			}
			if is, ok := impl.IsCover(stamp, target, first); !ok || !is || len(first) > len(greedy) {
				t.Fatalf("%v with %v: FirstCover %v, IsCover %v, %v, GreedyCover %v", target, stamp, first, is, ok, greedy)
			}
			for _, cell := range needed {
				if !slices.Contains(first, cell) || !slices.Contains(greedy, cell) {
					t.Fatalf("%v with %v: FirstCover %v, GreedyCover %v, NeededCells %v", target, stamp, first, greedy, needed)
				}
			}
			if len(greedy) > len(first) {
				longer++
			}
		}
	}
	if longer == 0 {
		t.Error("each greedy cover of the test has as few cells as the first one")
	}
}

func TestIsCover(t *testing.T) {
	for _, c := range []struct {
		stamp, target impl.Sheet
		cells         [][2]int
		want          bool
	}{
		{white, white, nil, true}, {white, white, [][2]int{}, true}, {unit, white, nil, true}, {full, white, nil, true}, {white, unit, nil, false}, {unit, unit, nil, false}, {unit, full, [][2]int{}, false},
		{white, white, at(0, 0), true}, {white, white, at(0, 0, 3, 2, 5, 5), true}, {white, white, allCells()[:5], true}, {white, white, allCells()[:6], false}, {white, white, at(1, 0, 0, 0), false},
		{white, white, at(1, 0, 1, 0), false}, {white, white, at(6, 0), false}, {white, unit, at(0, 0), false}, {unit, white, at(0, 0), false},
		{unit, unit, at(0, 0), true}, {unit, unit, at(1, 0), false}, {unit, unit, at(0, 1), false}, {unit, unit, at(0, 0, 1, 0), false}, {unit, unit, at(0, 0, 0, 0), false}, {unit, unit, at(6, 0), false},
		{unit, unit, at(-6, 0), false}, {unit, unit, at(0, 6), false}, {unit, unit, at(0, -6), false}, {unit, unit, at(0, 0, 6, 0), false}, {unit, unit, at(0, -6, 0, 0), false}, {unit, unit, at(0, 0, 0, 6), false},
		{unit, sheet(31), at(0, 0, 1, 0, 2, 0, 3, 0, 4, 0), true}, {unit, sheet(31), at(0, 0, 1, 0, 2, 0, 3, 0), false}, {unit, sheet(31), at(0, 0, 1, 0, 2, 0, 4, 0, 3, 0), false},
		{unit, sheet(63), at(0, 0, 1, 0, 2, 0, 3, 0, 4, 0, 5, 0), false}, {unit, sheet(31), at(0, 0, 0, 0, 1, 0, 2, 0, 3, 0, 4, 0), false}, {unit, full, allCells(), false},
		{unit, sheet(2, 1), at(1, 0, 0, 1), true}, {unit, sheet(2, 1), at(0, 1, 1, 0), false}, {sheet(3), sheet(7), at(0, 0, 1, 0), true}, {sheet(3), sheet(7), at(1, 0, 0, 0), false},
		{sheet(3), sheet(7), at(0, 0, 0, 0, 1, 0), false}, {sheet(3), sheet(7), at(0, 0, 1, 0, 1, 0), false}, {sheet(3), sheet(7), at(0, 0), false}, {sheet(3), sheet(7), at(0, 0, 1, 0, 2, 0), false},
		{sheet(3), sheet(15), at(0, 0, 2, 0), true}, {sheet(3), sheet(15), at(0, 0, 1, 0, 2, 0), true}, {sheet(3), sheet(63), at(0, 0, 1, 0, 2, 0, 3, 0, 4, 0), true}, {sheet(3), sheet(63), at(1, 0, 3, 0, 5, 0), true},
		{sheet(3), sheet(63), allCells()[:6], false}, {sheet(3), sheet(33), at(5, 0), true}, {sheet(9), sheet(9), at(0, 0), true}, {sheet(9), sheet(9), at(3, 0), true}, {sheet(9), sheet(9), at(0, 0, 3, 0), true},
		{sheet(9), sheet(9), at(1, 0), false}, {full, full, at(5, 5), true}, {full, full, at(0, 0, 5, 5), true}, {full, full, at(4, 4, 5, 5, 5, 5), false}, {sheet(3), sheet(5), at(0, 0), false},
	} {
		if is, ok := impl.IsCover(c.stamp, c.target, c.cells); !ok || is != c.want {
			t.Errorf("IsCover(%v, %v, %v) = %v, %v", c.stamp, c.target, c.cells, is, ok)
		}
	}
}

func TestIsCoverOfInvalidCellsAndLongLists(t *testing.T) {
	for _, bad := range badCells() {
		for _, stamp := range []impl.Sheet{white, unit, full, sheet(3)} {
			for _, target := range []impl.Sheet{white, unit, full, sheet(3)} {
				for _, cells := range [][][2]int{{bad}, {bad, {0, 0}}, {{0, 0}, bad}, {{0, 0}, bad, {5, 5}}, {bad, bad}, {{5, 5}, bad}, append(allCells(), bad)} {
					if is, ok := impl.IsCover(stamp, target, cells); !ok || is {
						t.Errorf("IsCover(%v, %v, %v) = %v, %v", stamp, target, cells, is, ok)
					}
				}
			}
		}
	}
	for _, n := range []int{6, 7, 36, 37, 1000, 100000} {
		cells := slices.Repeat(allCells(), n/36+1)[:n]
		for _, stamp := range []impl.Sheet{white, unit, full} {
			if is, ok := impl.IsCover(stamp, inkedBy(stamp, allCells()), cells); !ok || is {
				t.Errorf("IsCover of %d cells = %v, %v", n, is, ok)
			}
		}
	}
}

// Of all lists with at most two cells, in any order, just those in order whose presses make the target are covers, as many as are counted.
func TestCoversAreCountedByIsCover(t *testing.T) {
	for _, stamp := range coverStamps() {
		for _, cells := range append(someLists(10)[:2], at(0, 0), at(5, 5, 5, 5), nil) {
			target := inkedBy(stamp, cells)
			covers := map[int]int{}
			lists := [][][2]int{nil}
			for _, cell := range allCells() {
				lists = append(lists, [][2]int{cell})
				for _, other := range allCells() {
					lists = append(lists, [][2]int{cell, other})
				}
			}
			for _, list := range lists {
				is, ok := impl.IsCover(stamp, target, list)
				ordered := len(list) < 2 || compareLists(list[:1], list[1:]) < 0
				if !ok || is != (ordered && inkedBy(stamp, list) == target) {
					t.Fatalf("IsCover(%v, %v, %v) = %v, %v", stamp, target, list, is, ok)
				}
				if is {
					covers[len(list)]++
				}
			}
			first, one := impl.FirstCover(stamp, target)
			many, two := impl.CountCovers(stamp, target)
			if !one || !two || len(first) > 2 || many != covers[len(first)] {
				t.Fatalf("%v with %v: FirstCover %v, CountCovers %d, and %v are covers", target, stamp, first, many, covers)
			}
		}
	}
}

func TestCountTilingsAndFirstTiling(t *testing.T) {
	twelve := sheet(3, 0, 52, 7, 0, 45)
	for _, c := range []counted{
		{unit, white, nil, 1}, {full, white, nil, 1}, {sheet(9), white, nil, 1}, {unit, unit, at(0, 0), 1}, {unit, twelve, gridOf(twelve).cells(), 1}, {twelve, twelve, at(0, 0), 1},
		{sheet(3), sheet(3), at(0, 0), 1}, {sheet(3), sheet(15), at(0, 0, 2, 0), 1}, {sheet(3), sheet(63), at(0, 0, 2, 0, 4, 0), 2}, {sheet(3), sheet(63, 63), at(0, 0, 2, 0, 4, 0, 0, 1, 2, 1, 4, 1), 4},
		{sheet(3), sheet(33), at(5, 0), 1}, {sheet(33), sheet(15), at(1, 0, 3, 0), 1}, {sheet(32), sheet(33), at(0, 0, 1, 0), 1}, {sheet(1, 1), sheet(1, 0, 0, 0, 0, 1), at(0, 5), 1},
		{sheet(1, 1), sheet(1, 3, 2), at(0, 0, 1, 1), 1}, {sheet(3, 3), sheet(15, 15), at(0, 0, 2, 0), 1}, {sheet(3, 3), sheet(63, 63), at(0, 0, 2, 0, 4, 0), 2}, {sheet(9), sheet(9), at(0, 0), 2},
		{sheet(9), sheet(63), at(0, 0, 1, 0, 2, 0), 8}, {sheet(9), sheet(63, 63), at(0, 0, 1, 0, 2, 0, 0, 1, 1, 1, 2, 1), 64}, {sheet(63), sheet(63), at(0, 0), 6}, {sheet(63), sheet(63, 63), at(0, 0, 0, 1), 36},
		{sheet(63, 63), sheet(63, 63), at(0, 0), 6}, {sheet(21), sheet(63, 0, 63), at(0, 0, 1, 0, 0, 2, 1, 2), 81}, {sheet(5), sheet(15), at(0, 0, 1, 0), 1}, {sheet(7), sheet(63), at(0, 0, 3, 0), 3},
	} {
		many, one := impl.CountTilings(c.stamp, c.target)
		first, two := impl.FirstTiling(c.stamp, c.target)
		if !one || !two || !slices.Equal(first, c.first) || many != c.many {
			t.Errorf("%v with %v: FirstTiling %v, %v, not %v, and CountTilings %d, %v, not %d", c.target, c.stamp, first, two, c.first, many, one, c.many)
		}
	}
}

func TestNoTilings(t *testing.T) {
	for _, c := range [][2]impl.Sheet{
		{sheet(3), unit}, {sheet(3), sheet(7)}, {sheet(3), sheet(5)}, {sheet(3), sheet(51, 1)}, {sheet(3), sheet(7, 1)}, {sheet(5), sheet(63)}, {full, unit}, {full, sheet(63, 63)}, {holed, sheet(63, 63)},
		{sheet(63), sheet(1, 1, 1, 1, 1, 1)}, {sheet(3, 1), sheet(7, 7)}, {sheet(63, 63, 1), sheet(63, 63)}, {sheet(9), sheet(3)},
	} {
		if n, ok := impl.CountTilings(c[0], c[1]); !ok || n != 0 {
			t.Errorf("CountTilings(%v, %v) = %d, %v", c[0], c[1], n, ok)
		}
		checkNoCells(t, "FirstTiling", impl.FirstTiling, c[0], c[1])
	}
}

func TestMostApart(t *testing.T) {
	for _, c := range []struct {
		stamp, target impl.Sheet
		want          int
	}{
		{unit, white, 0}, {full, white, 0}, {sheet(9), white, 0}, {unit, unit, 1}, {unit, sheet(63, 63), 12}, {unit, uneven, 4}, {full, unit, 0}, {holed, sheet(63, 63), 0}, {sheet(3), sheet(5), 0},
		{sheet(3), sheet(3), 1}, {sheet(3), sheet(7), 1}, {sheet(3), sheet(15), 2}, {sheet(3), sheet(31), 2}, {sheet(3), sheet(63), 3}, {sheet(3), sheet(63, 63), 6}, {sheet(3), sheet(33), 1}, {sheet(3), sheet(35), 1},
		{sheet(3), sheet(3, 1), 1}, {sheet(5), sheet(63), 2}, {sheet(9), sheet(9), 1}, {sheet(9), sheet(63), 3}, {sheet(63), sheet(63), 1}, {sheet(63), sheet(63, 63), 2}, {sheet(21, 42), sheet(63, 63), 2},
		{sheet(7), sheet(63), 2}, {sheet(7), sheet(31), 1}, {sheet(3, 1), sheet(15, 15), 2}, {sheet(3, 3), sheet(7, 7), 1}, {sheet(15), sheet(63), 1},
	} {
		if n, ok := impl.MostApart(c.stamp, c.target); !ok || n != c.want {
			t.Errorf("MostApart(%v, %v) = %d, %v, not %d", c.stamp, c.target, n, ok, c.want)
		}
	}
}

func TestTilingsAreAskedForSmallTargetsOnly(t *testing.T) {
	fail := func(stamp, target impl.Sheet) {
		t.Helper()
		checkNoNumber(t, "CountTilings", impl.CountTilings, stamp, target)
		checkNoCells(t, "FirstTiling", impl.FirstTiling, stamp, target)
		checkNoNumber(t, "MostApart", impl.MostApart, stamp, target)
	}
	for _, s := range append(someSheets(30), sheet(63, 63), sheet(63, 63, 1), thirteen, uneven) {
		fail(white, s)
		for _, stamp := range coverStamps() {
			if sizeOf(s) > 12 {
				fail(stamp, s)
				continue
			}
			_, one := impl.CountTilings(stamp, s)
			_, two := impl.MostApart(stamp, s)
			if one != (stamp != white) || two != one {
				t.Errorf("%v with %v: CountTilings %v, MostApart %v", s, stamp, one, two)
			}
		}
	}
	for _, target := range []impl.Sheet{sheet(63, 63, 1), sheet(63, 63, 0, 0, 0, 32), sheet(1, 63, 63), sheet(63, 15, 7)} {
		fail(unit, target)
		fail(sheet(3), target)
		fail(target, target)
		less := without(target, oneCell(gridOf(target).cells()[12]))
		if n, ok := impl.MostApart(unit, less); !ok || n != 12 {
			t.Errorf("MostApart(unit, %v) = %d, %v", less, n, ok)
		}
	}
}

func TestTilingsAreAllThoseOfLists(t *testing.T) {
	many, most := map[int]int{}, map[int]int{}
	for _, stamp := range coverStamps() {
		if stamp == white {
			continue
		}
		for _, target := range smallTargets(stamp) {
			tilings, apart := apartBy(stamp, target)
			n, one := impl.CountTilings(stamp, target)
			first, two := impl.FirstTiling(stamp, target)
			m, three := impl.MostApart(stamp, target)
			if !one || n != len(tilings) || two != (n > 0) || !two && len(first) != 0 || two && !slices.Equal(first, tilings[0]) || !three || m != apart {
				t.Fatalf("%v with %v: CountTilings %d, %v, FirstTiling %v, %v, MostApart %d, %v, not %v, %d", target, stamp, n, one, first, two, m, three, tilings, apart)
			}
			many[min(n, 3)]++
			most[m]++
		}
	}
	for n := range 4 {
		if many[n] < 50 {
			t.Errorf("just %d targets of the test have %d tilings (3: or more)", many[n], n)
		}
	}
	for n := range 7 {
		if most[n] < 5 {
			t.Errorf("just %d targets of the test have %d open cells apart", most[n], n)
		}
	}
}

func TestTilingsCoverEachCellJustOnce(t *testing.T) {
	tiled := 0
	for _, stamp := range coverStamps() {
		for _, target := range smallTargets(stamp) {
			first, ok := impl.FirstTiling(stamp, target)
			if !ok {
				continue
			}
			tiled++
			var times [6][6]int
			for i, cell := range first {
				if i > 0 && compareLists(first[i-1:i], first[i:i+1]) >= 0 {
					t.Fatalf("FirstTiling(%v, %v) = %v is not in order", stamp, target, first)
				}
				shifted, _ := impl.ShiftSheet(stamp, cell[0], cell[1])
				for _, black := range gridOf(shifted).cells() {
					times[black[1]][black[0]]++
				}
			}
			for _, cell := range allCells() {
				want := 0
				if gridOf(target)[cell[1]][cell[0]] {
					want = 1
				}
				if times[cell[1]][cell[0]] != want {
					t.Fatalf("FirstTiling(%v, %v) = %v covers %v %d times", stamp, target, first, cell, times[cell[1]][cell[0]])
				}
			}
			apart, one := impl.MostApart(stamp, target)
			inked, two := impl.InkAll(stamp, first)
			if !one || !two || apart != len(first) || inked != target || len(first)*sizeOf(stamp) != sizeOf(target) {
				t.Fatalf("%v with %v: FirstTiling %v, MostApart %d", target, stamp, first, apart)
			}
		}
	}
	if tiled < 500 {
		t.Errorf("just %d targets of the test have tilings", tiled)
	}
}

func TestInvalidStampsOrTargetsHaveNoCovers(t *testing.T) {
	lists := map[string]cellsCall{"OpenCells": impl.OpenCells, "FirstCover": impl.FirstCover, "GreedyCover": impl.GreedyCover, "NeededCells": impl.NeededCells, "FirstTiling": impl.FirstTiling}
	numbers := map[string]func(impl.Sheet, impl.Sheet) (int, bool){"CountCovers": impl.CountCovers, "CountTilings": impl.CountTilings, "MostApart": impl.MostApart}
	for _, bad := range badSheets() {
		for _, other := range []impl.Sheet{white, full, bad, unit, uneven, sheet(3)} {
			for _, two := range [][2]impl.Sheet{{bad, other}, {other, bad}} {
				for name, call := range lists {
					checkNoCells(t, name, call, two[0], two[1])
				}
				for name, call := range numbers {
					checkNoNumber(t, name, call, two[0], two[1])
				}
				if can, ok := impl.CanInk(two[0], two[1]); ok || can {
					t.Errorf("CanInk(%v, %v) = %v, %v", two[0], two[1], can, ok)
				}
				for _, cells := range [][][2]int{nil, at(0, 0), at(0, 0, 1, 0), at(1, 0, 0, 0), at(6, 0), allCells()} {
					if is, ok := impl.IsCover(two[0], two[1], cells); ok || is {
						t.Errorf("IsCover(%v, %v, %v) = %v, %v", two[0], two[1], cells, is, ok)
					}
				}
			}
		}
	}
}

func TestInkAllOfInvalidArgumentsFails(t *testing.T) {
	for _, bad := range badSheets() {
		for _, cells := range [][][2]int{nil, at(0, 0), at(3, 1, 3, 1), at(0, 6), allCells()} {
			s, ok := impl.InkAll(bad, cells)
			checkNoSheet(t, "InkAll", s, ok)
		}
	}
	for _, bad := range badCells() {
		for _, stamp := range []impl.Sheet{white, unit, full, sheet(3)} {
			for _, cells := range [][][2]int{{bad}, {bad, {0, 0}}, {{0, 0}, bad}, {{5, 5}, bad, {1, 1}}, {bad, bad}, append(allCells(), bad)} {
				s, ok := impl.InkAll(stamp, cells)
				checkNoSheet(t, "InkAll", s, ok)
			}
		}
	}
}

func TestCoversModifyNoArgument(t *testing.T) {
	backing := at(5, 5, 0, 0, 1, 0, 1, 0, 9, 9, 0, math.MinInt, 3, 2, 2, 2)
	before := slices.Clone(backing)
	for from := range backing {
		for to := from; to <= len(backing); to++ {
			impl.InkAll(sheet(3), backing[from:to])
			impl.IsCover(sheet(3), sheet(7), backing[from:to])
			if !slices.Equal(backing, before) {
				t.Fatalf("the cells %v are left as %v", before, backing)
			}
		}
	}
}

func TestCoversSameResultsAgain(t *testing.T) {
	for name, call := range map[string]cellsCall{"OpenCells": impl.OpenCells, "FirstCover": impl.FirstCover, "GreedyCover": impl.GreedyCover, "NeededCells": impl.NeededCells, "FirstTiling": impl.FirstTiling} {
		for _, two := range [][2]impl.Sheet{{sheet(3), sheet(15)}, {unit, sheet(31)}, {sheet(9), sheet(63)}, {unit, white}} {
			cells, one := call(two[0], two[1])
			first := slices.Clone(cells)
			longer := append(cells, [2]int{-1, -1})
			for i := range longer {
				longer[i] = [2]int{-1, -1}
			}
			for i := range cells {
				cells[i] = [2]int{7, 7}
			}
			call(full, sheet(-1))
			if again, two := call(two[0], two[1]); !one || !two || !slices.Equal(again, first) {
				t.Errorf("%s gives %v and then %v", name, first, again)
			}
		}
	}
	cells := at(0, 0, 1, 0)
	inked, _ := impl.InkAll(sheet(3), cells)
	cells[0] = [2]int{5, 5}
	if again, ok := impl.InkAll(sheet(3), at(0, 0, 1, 0)); !ok || again != inked || inked != sheet(7) {
		t.Errorf("InkAll gives %v and then %v, %v", inked, again, ok)
	}
	for range 3 {
		many, one := impl.CountCovers(sheet(9), sheet(63))
		tilings, two := impl.CountTilings(sheet(9), sheet(63))
		apart, three := impl.MostApart(sheet(9), sheet(63))
		if !one || !two || !three || many != 8 || tilings != 8 || apart != 3 {
			t.Errorf("CountCovers %d, CountTilings %d, MostApart %d", many, tilings, apart)
		}
	}
}
