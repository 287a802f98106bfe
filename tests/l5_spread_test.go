package tests

import (
	"math"
	"testing"

	"loop.example/g01220/impl"
)

// holed is the full sheet without the cell 0, 0.
var holed = sheet(62, 63, 63, 63, 63, 63)

func either(a, b impl.Sheet) impl.Sheet {
	return each(gridOf(a), gridOf(b), func(a, b bool) bool { return a || b }).sheet()
}

func without(a, b impl.Sheet) impl.Sheet {
	return each(gridOf(a), gridOf(b), func(a, b bool) bool { return a && !b }).sheet()
}

func isPart(a, b impl.Sheet) bool { return without(a, b) == white }

// spreadBy joins the shifts of a sheet by the black cells of a stamp.
func spreadBy(s, stamp impl.Sheet) impl.Sheet {
	all := white
	for _, cell := range gridOf(stamp).cells() {
		all = either(all, gridOf(s).moved(cell[0], cell[1]).sheet())
	}
	return all
}

// shrunkBy tries a stamp at each cell.
func shrunkBy(s, stamp impl.Sheet) impl.Sheet {
	var g grid
	for _, cell := range allCells() {
		g[cell[1]][cell[0]] = isPart(gridOf(stamp).moved(cell[0], cell[1]).sheet(), s)
	}
	return g.sheet()
}

// openedBy joins the shifts of a stamp that are part of a sheet.
func openedBy(s, stamp impl.Sheet) impl.Sheet {
	all := white
	for _, cell := range allCells() {
		if shifted := gridOf(stamp).moved(cell[0], cell[1]).sheet(); isPart(shifted, s) {
			all = either(all, shifted)
		}
	}
	return all
}

func closedBy(s, stamp impl.Sheet) impl.Sheet { return shrunkBy(spreadBy(s, stamp), stamp) }

func innerBy(s, stamp impl.Sheet) impl.Sheet { return without(s, shrunkBy(s, stamp)) }

func outerBy(s, stamp impl.Sheet) impl.Sheet { return without(spreadBy(s, stamp), s) }

// A change is one of the functions that make a sheet of a sheet and a stamp, with what plain grids make of both.
type change struct {
	name string
	call func(impl.Sheet, impl.Sheet) (impl.Sheet, bool)
	want func(impl.Sheet, impl.Sheet) impl.Sheet
}

func changes() []change {
	return []change{
		{"SpreadSheet", impl.SpreadSheet, spreadBy},
		{"ShrinkSheet", impl.ShrinkSheet, shrunkBy},
		{"OpenSheet", impl.OpenSheet, openedBy},
		{"CloseSheet", impl.CloseSheet, closedBy},
		{"InnerEdge", impl.InnerEdge, innerBy},
		{"OuterEdge", impl.OuterEdge, outerBy},
		{"SumStamp", impl.SumStamp, spreadBy},
	}
}

// A report is one of the functions that hold a sheet against what a stamp makes of it.
type report struct {
	name string
	call func(impl.Sheet, impl.Sheet) (bool, bool)
	want func(impl.Sheet, impl.Sheet) impl.Sheet
}

func reports() []report {
	return []report{{"IsOpened", impl.IsOpened, openedBy}, {"IsClosed", impl.IsClosed, closedBy}}
}

// smallStamps have few cells, with and without the cell 0, 0, some of them beside both edges.
func smallStamps() []impl.Sheet {
	return []impl.Sheet{unit, sheet(2), sheet(0, 0, 0, 0, 0, 32), sheet(3), sheet(6), sheet(33), sheet(5), sheet(9), sheet(1, 1), sheet(0, 1, 1), sheet(3, 1), sheet(6, 2),
		sheet(33, 0, 0, 0, 0, 1), sheet(3, 3), sheet(33, 0, 0, 0, 0, 33), sheet(1, 2), sheet(32, 1), sheet(7), sheet(0, 0, 20), sheet(7, 2), sheet(2, 7, 2), uneven, sheet(1, 0, 0, 4)}
}

// edgeStamps are small stamps, stamps with many cells, and the white and the full sheet.
func edgeStamps() []impl.Sheet {
	return append(smallStamps(), white, full, holed, sheet(63), sheet(21, 42, 21, 42, 21, 42), thirteen)
}

// someTargets gives sheets with few and with many cells, and the same spread and shrunk by a stamp.
func someTargets(stamp impl.Sheet) []impl.Sheet {
	all := append(someSheets(12), smallStamps()...)
	for _, s := range all[40:] {
		all = append(all, without(full, s), spreadBy(s, stamp), shrunkBy(without(full, s), stamp))
	}
	return all
}

func TestMaxTimesIsTwelve(t *testing.T) {
	if impl.MaxTimes != 12 {
		t.Error("MaxTimes", impl.MaxTimes)
	}
}

// checkChange asks for the third sheet of each row, made of the first one by the second one as the stamp.
func checkChange(t *testing.T, name string, call func(impl.Sheet, impl.Sheet) (impl.Sheet, bool), rows [][3]impl.Sheet) {
	t.Helper()
	for _, c := range rows {
		if got, ok := call(c[0], c[1]); !ok || got != c[2] {
			t.Errorf("%s(%v, %v) = %v, %v, not %v", name, c[0], c[1], got, ok, c[2])
		}
	}
}

func TestSpreadSheet(t *testing.T) {
	checkChange(t, "SpreadSheet", impl.SpreadSheet, [][3]impl.Sheet{
		{white, white, white}, {white, unit, white}, {white, full, white}, {full, white, white}, {uneven, white, white}, {full, full, full}, {full, unit, full}, {unit, full, full},
		{uneven, unit, uneven}, {unit, uneven, uneven}, {uneven, full, full}, {sheet(3, 1), sheet(3), sheet(7, 3)}, {sheet(32), sheet(3), sheet(33)},
		{unit, sheet(0, 0, 0, 0, 0, 32), sheet(0, 0, 0, 0, 0, 32)}, {sheet(0, 0, 0, 0, 0, 32), sheet(0, 2), unit}, {sheet(1, 0, 1), sheet(2, 2), sheet(2, 2, 2, 2)},
		{sheet(63), sheet(1, 1), sheet(63, 63)}, {sheet(0, 6), sheet(6), sheet(0, 28)}, {holed, sheet(3), full}, {holed, unit, holed}, {holed, sheet(2), sheet(61, 63, 63, 63, 63, 63)},
	})
}

func TestShrinkSheet(t *testing.T) {
	checkChange(t, "ShrinkSheet", impl.ShrinkSheet, [][3]impl.Sheet{
		{white, white, full}, {unit, white, full}, {uneven, white, full}, {full, white, full}, {white, unit, white}, {white, full, white}, {full, full, full}, {full, sheet(3, 1), full},
		{holed, full, white}, {holed, unit, holed}, {uneven, unit, uneven}, {uneven, sheet(2), sheet(37, 32)}, {sheet(3, 1), sheet(3), unit}, {sheet(33), sheet(3), sheet(32)},
		{holed, sheet(3), sheet(30, 63, 63, 63, 63, 63)}, {sheet(0, 6), sheet(6), sheet(0, 1)}, {sheet(1, 0, 0, 0, 0, 1), sheet(1, 1), sheet(0, 0, 0, 0, 0, 1)}, {unit, sheet(3), white},
		{unit, sheet(0, 0, 0, 0, 0, 32), sheet(0, 2)}, {sheet(33, 0, 0, 0, 0, 33), sheet(3, 3), sheet(0, 0, 0, 0, 0, 32)},
	})
}

func TestOpenSheet(t *testing.T) {
	checkChange(t, "OpenSheet", impl.OpenSheet, [][3]impl.Sheet{
		{white, white, white}, {unit, white, white}, {full, white, white}, {white, unit, white}, {white, full, white}, {full, full, full}, {full, unit, full}, {holed, full, white},
		{uneven, unit, uneven}, {uneven, sheet(2), uneven}, {uneven, sheet(3), sheet(3)}, {uneven, sheet(6), sheet(3)}, {uneven, sheet(5), sheet(10)}, {uneven, sheet(7), white},
		{sheet(3, 1), sheet(3), sheet(3)}, {sheet(33), sheet(3), sheet(33)}, {sheet(7), sheet(5), sheet(5)}, {sheet(7), sheet(3), sheet(7)}, {sheet(3, 1), sheet(1, 1), sheet(1, 1)},
	})
}

func TestCloseSheet(t *testing.T) {
	checkChange(t, "CloseSheet", impl.CloseSheet, [][3]impl.Sheet{
		{white, white, full}, {unit, white, full}, {full, white, full}, {white, unit, white}, {white, full, white}, {full, full, full}, {full, sheet(3), full}, {unit, full, full},
		{uneven, unit, uneven}, {uneven, sheet(2), uneven}, {sheet(3, 1), sheet(3), sheet(3, 1)}, {sheet(5), sheet(3), sheet(7)}, {sheet(5), sheet(6), sheet(7)},
		{sheet(5), sheet(5), sheet(21)}, {unit, sheet(5), unit}, {sheet(17), sheet(3), sheet(49)}, {sheet(1, 0, 1), sheet(1, 1), sheet(1, 1, 1)}, {holed, sheet(3), full},
	})
}

func TestInnerEdge(t *testing.T) {
	checkChange(t, "InnerEdge", impl.InnerEdge, [][3]impl.Sheet{
		{white, white, white}, {uneven, white, white}, {full, white, white}, {white, unit, white}, {white, full, white}, {full, full, white}, {full, sheet(3), white},
		{uneven, unit, white}, {uneven, full, uneven}, {uneven, sheet(2), sheet(10, 1)}, {sheet(3, 1), sheet(3), sheet(2, 1)}, {sheet(33), sheet(3), sheet(1)},
		{holed, sheet(3), sheet(32)}, {holed, full, holed}, {holed, sheet(2), sheet(32)}, {sheet(0, 6), sheet(6), sheet(0, 6)},
	})
}

func TestOuterEdge(t *testing.T) {
	checkChange(t, "OuterEdge", impl.OuterEdge, [][3]impl.Sheet{
		{white, white, white}, {uneven, white, white}, {full, white, white}, {white, unit, white}, {white, full, white}, {full, full, white}, {full, sheet(3), white},
		{uneven, unit, white}, {unit, full, holed}, {uneven, sheet(2), sheet(20, 2)}, {sheet(3, 1), sheet(3), sheet(4, 2)}, {sheet(33), sheet(3), sheet(2)},
		{holed, sheet(3), unit}, {holed, sheet(2), unit}, {sheet(0, 6), sheet(6), sheet(0, 24)},
	})
}

func TestChangesAreThoseOfGrids(t *testing.T) {
	for _, c := range changes() {
		made := map[impl.Sheet]bool{}
		for _, stamp := range edgeStamps() {
			for _, s := range someTargets(stamp) {
				got, ok := c.call(s, stamp)
				if !ok || got != c.want(s, stamp) {
					t.Fatalf("%s(%v, %v) = %v, %v, not %v", c.name, s, stamp, got, ok, c.want(s, stamp))
				}
				made[got] = true
			}
		}
		if len(made) < 300 {
			t.Errorf("%s makes just %d different sheets in the test", c.name, len(made))
		}
	}
}

// InkAt of chapter 2 at all black cells of a sheet makes of the white one what the stamp spreads it to.
func TestSpreadIsMadeByInks(t *testing.T) {
	for _, stamp := range edgeStamps() {
		for _, s := range someTargets(stamp) {
			inked := white
			for _, cell := range gridOf(s).cells() {
				inked, _ = impl.InkAt(inked, stamp, cell)
			}
			if got, ok := impl.SpreadSheet(s, stamp); !ok || got != inked {
				t.Fatalf("SpreadSheet(%v, %v) = %v, %v, and inks make %v", s, stamp, got, ok, inked)
			}
		}
	}
}

func TestReflectSheet(t *testing.T) {
	for _, c := range [][2]impl.Sheet{
		{white, white}, {full, full}, {unit, unit}, {holed, holed}, {sheet(3), sheet(33)}, {uneven, sheet(41, 0, 0, 0, 0, 1)}, {sheet(0, 0, 0, 0, 0, 32), sheet(0, 2)},
		{sheet(8, 0, 0, 8), sheet(8, 0, 0, 8)}, {sheet(1, 2, 4, 8, 16, 32), sheet(1, 2, 4, 8, 16, 32)}, {sheet(32, 16, 8, 4, 2, 1), sheet(2, 1, 32, 16, 8, 4)}, {sheet(0, 6), sheet(0, 0, 0, 0, 0, 48)},
	} {
		if got, ok := impl.ReflectSheet(c[0]); !ok || got != c[1] {
			t.Errorf("ReflectSheet(%v) = %v, %v", c[0], got, ok)
		}
	}
	for _, s := range someSheets(200) {
		got, ok := impl.ReflectSheet(s)
		if !ok || got != reflected(s) {
			t.Errorf("ReflectSheet(%v) = %v, %v", s, got, ok)
		}
		if back, ok := impl.ReflectSheet(got); !ok || back != s {
			t.Errorf("ReflectSheet(%v) = %v, %v", got, back, ok)
		}
	}
}

func TestHitSheet(t *testing.T) {
	for _, c := range [][4]impl.Sheet{
		{white, white, white, full}, {full, white, white, full}, {uneven, white, white, full}, {white, white, full, full}, {full, full, white, full}, {full, full, unit, white},
		{full, white, unit, white}, {white, unit, white, white}, {white, unit, full, white}, {holed, white, unit, unit}, {holed, unit, white, holed}, {uneven, unit, unit, white},
		{uneven, sheet(3), sheet(6), white}, {sheet(3, 1), unit, sheet(2), sheet(2, 1)}, {sheet(14), unit, sheet(2), sheet(8)}, {sheet(14), unit, sheet(32), sheet(2)},
		{sheet(33), unit, sheet(2), unit}, {sheet(33), sheet(2), unit, sheet(16)}, {sheet(0, 0, 0, 0, 0, 1), unit, sheet(0, 1), sheet(0, 0, 0, 0, 0, 1)},
		{sheet(1, 0, 0, 0, 0, 1), unit, sheet(0, 1), unit}, {unit, unit, holed, unit}, {sheet(0, 0, 8), unit, holed, sheet(0, 0, 8)}, {sheet(3), unit, holed, white}, {unit, holed, unit, white}, {holed, holed, unit, unit},
	} {
		if got, ok := impl.HitSheet(c[0], c[1], c[2]); !ok || got != c[3] {
			t.Errorf("HitSheet(%v, %v, %v) = %v, %v, not %v", c[0], c[1], c[2], got, ok, c[3])
		}
	}
}

func TestHitsAreThoseOfGrids(t *testing.T) {
	made := map[impl.Sheet]bool{}
	for _, hit := range edgeStamps() {
		for _, miss := range edgeStamps() {
			for _, s := range someTargets(hit)[44:64] {
				var want grid
				for _, cell := range allCells() {
					in, out := gridOf(hit).moved(cell[0], cell[1]).sheet(), gridOf(miss).moved(cell[0], cell[1]).sheet()
					want[cell[1]][cell[0]] = isPart(in, s) && without(out, s) == out
				}
				got, ok := impl.HitSheet(s, hit, miss)
				if !ok || got != want.sheet() {
					t.Fatalf("HitSheet(%v, %v, %v) = %v, %v, not %v", s, hit, miss, got, ok, want.sheet())
				}
				made[got] = true
			}
		}
	}
	if len(made) < 100 {
		t.Errorf("HitSheet makes just %d different sheets in the test", len(made))
	}
}

func TestSpreadTimes(t *testing.T) {
	for _, c := range []struct {
		s, stamp impl.Sheet
		n        int
		want     impl.Sheet
	}{
		{uneven, white, 0, uneven}, {uneven, white, 1, white}, {uneven, white, 12, white}, {uneven, full, 0, uneven}, {uneven, full, 1, full}, {uneven, full, 12, full},
		{white, full, 0, white}, {white, full, 12, white}, {full, white, 0, full}, {full, unit, 12, full}, {uneven, unit, 12, uneven}, {uneven, sheet(2), 12, uneven},
		{uneven, sheet(2), 1, sheet(22, 2)}, {uneven, sheet(2), 11, sheet(37, 32)}, {unit, sheet(3), 4, sheet(31)}, {unit, sheet(3), 5, sheet(63)}, {unit, sheet(3), 12, sheet(63)},
		{unit, sheet(3), 2, sheet(7)}, {unit, sheet(3, 1), 2, sheet(7, 3, 1)}, {unit, sheet(3, 1), 9, sheet(63, 63, 63, 63, 63, 31)}, {unit, sheet(3, 1), 10, full},
		{unit, sheet(6), 2, sheet(28)}, {unit, sheet(6), 12, sheet(63)},
	} {
		if got, ok := impl.SpreadTimes(c.s, c.stamp, c.n); !ok || got != c.want {
			t.Errorf("SpreadTimes(%v, %v, %d) = %v, %v, not %v", c.s, c.stamp, c.n, got, ok, c.want)
		}
	}
	for _, stamp := range edgeStamps() {
		for _, s := range someTargets(stamp)[40:80] {
			want := s
			for n := range impl.MaxTimes + 1 {
				if got, ok := impl.SpreadTimes(s, stamp, n); !ok || got != want {
					t.Fatalf("SpreadTimes(%v, %v, %d) = %v, %v, not %v", s, stamp, n, got, ok, want)
				}
				want = spreadBy(want, stamp)
			}
		}
	}
}

func TestSpreadTimesOneBehindTheOther(t *testing.T) {
	for _, stamp := range edgeStamps() {
		for _, s := range []impl.Sheet{white, full, unit, uneven, holed, sheet(0, 0, 0, 0, 0, 32)} {
			for n := range impl.MaxTimes + 1 {
				for m := range impl.MaxTimes + 1 - n {
					once, one := impl.SpreadTimes(s, stamp, n)
					twice, two := impl.SpreadTimes(once, stamp, m)
					both, three := impl.SpreadTimes(s, stamp, n+m)
					if !one || !two || !three || twice != both {
						t.Fatalf("%v spread by %v %d times and then %d times gives %v, not %v", s, stamp, n, m, twice, both)
					}
				}
			}
		}
	}
}

func TestSpreadTimesOfOtherNumbersFails(t *testing.T) {
	for _, n := range []int{-1, -2, -12, -13, 13, 14, 24, 25, 1 << 32, math.MaxInt, math.MaxInt - 1, math.MinInt, math.MinInt + 1} {
		for _, s := range []impl.Sheet{white, full, uneven, sheet(64)} {
			for _, stamp := range []impl.Sheet{white, full, unit, sheet(3), sheet(-1)} {
				got, ok := impl.SpreadTimes(s, stamp, n)
				checkNoSheet(t, "SpreadTimes", got, ok)
			}
		}
	}
}

func TestTimesToFill(t *testing.T) {
	const never = -1
	for _, c := range []struct {
		s, stamp impl.Sheet
		want     int
	}{
		{full, white, 0}, {full, unit, 0}, {full, full, 0}, {full, sheet(3), 0}, {white, white, never}, {white, full, never}, {uneven, white, never}, {uneven, unit, never},
		{holed, unit, never}, {holed, sheet(2), never}, {holed, sheet(3), 1}, {holed, full, 1}, {unit, full, 1}, {unit, holed, 2}, {unit, sheet(3), never}, {unit, sheet(63), never},
		{sheet(21, 42, 21, 42, 21, 42), sheet(3), 1}, {sheet(21, 42, 21, 42, 21, 42), sheet(5), never}, {sheet(1, 1, 1, 1, 1, 1), sheet(3), 5}, {unit, sheet(3, 3), 5},
		{sheet(63), sheet(1, 1), 5}, {sheet(63, 63), sheet(0, 1, 1), 4}, {unit, sheet(3, 1), 10}, {unit, sheet(6, 2), 10}, {sheet(3), sheet(3, 1), 9}, {sheet(7), sheet(3, 1), 8},
		{sheet(15), sheet(3, 1), 7}, {sheet(31), sheet(3, 1), 6}, {sheet(63), sheet(3, 1), 5}, {uneven, sheet(33, 0, 0, 0, 0, 1), 6},
	} {
		n, ok := impl.TimesToFill(c.s, c.stamp)
		if ok != (c.want != never) || ok && n != c.want || !ok && n != 0 {
			t.Errorf("TimesToFill(%v, %v) = %d, %v, not %d", c.s, c.stamp, n, ok, c.want)
		}
	}
}

func TestTimesToFillAreTheLeast(t *testing.T) {
	times := map[int]int{}
	for _, stamp := range append(edgeStamps(), stampsOf(20)...) {
		for _, s := range someTargets(stamp) {
			least, can := 0, false
			for now := s; least <= 12 && !can; now = spreadBy(now, stamp) {
				can = now == full
				if !can {
					least++
				}
			}
			n, ok := impl.TimesToFill(s, stamp)
			if ok != can || ok && n != least || !ok && n != 0 {
				t.Fatalf("TimesToFill(%v, %v) = %d, %v, not %d, %v", s, stamp, n, ok, least, can)
			}
			if ok {
				times[n]++
			} else {
				times[-1]++
			}
		}
	}
	for n := -1; n <= 10; n++ {
		if times[n] == 0 {
			t.Errorf("no sheet of the test is full after just %d times (-1: never)", n)
		}
	}
}

// No sheet is full after just 11 or 12 times: 10 times are enough for all that a stamp spreads to.
// A shift of the stamp only shifts that, so it may have the cell 0, 0. A stamp with more cells spreads
// no slower, and at most four others are needed to spread to the same cells in the end.
func TestNoSheetIsFullAfterJustMaxTimes(t *testing.T) {
	slow := 0
	var check func(stamp impl.Sheet, from, more int)
	check = func(stamp impl.Sheet, from, more int) {
		nine, one := impl.SpreadTimes(unit, stamp, 9)
		ten, two := impl.SpreadTimes(unit, stamp, 10)
		eleven, three := impl.SpreadSheet(ten, stamp)
		if !one || !two || !three || ten != eleven {
			t.Fatalf("%v goes on to spread: %v and %v", stamp, ten, eleven)
		}
		if nine != ten {
			slow++
		}
		for place := from; place < 36 && more > 0; place++ {
			check(either(stamp, oneCell(allCells()[place])), place+1, more-1)
		}
	}
	check(unit, 1, 4)
	if slow == 0 {
		t.Error("no stamp needs 10 times")
	}
}

func TestShrinkLeft(t *testing.T) {
	for _, c := range []struct {
		s, stamp impl.Sheet
		n        int
		left     impl.Sheet
	}{
		{white, white, 0, white}, {white, unit, 0, white}, {white, full, 0, white}, {full, white, 12, full}, {full, full, 12, full}, {full, sheet(3), 12, full}, {unit, white, 12, full},
		{uneven, white, 12, full}, {uneven, unit, 12, uneven}, {uneven, sheet(2), 12, uneven}, {uneven, full, 0, uneven}, {unit, sheet(3), 0, unit}, {uneven, sheet(7), 0, uneven},
		{uneven, sheet(3), 1, unit}, {sheet(7), sheet(3), 2, unit}, {sheet(31), sheet(3), 4, unit}, {sheet(63), sheet(3), 12, sheet(63)}, {sheet(7), sheet(6), 2, sheet(16)},
		{holed, full, 0, holed}, {holed, sheet(3, 1), 9, sheet(0, 2)}, {holed, sheet(33, 0, 0, 0, 0, 1), 9, sheet(0, 0, 0, 0, 0, 32)}, {sheet(3, 3), sheet(3, 3), 1, unit},
		{sheet(33, 0, 0, 0, 0, 33), sheet(3, 3), 1, sheet(0, 0, 0, 0, 0, 32)}, {sheet(63, 63, 63), sheet(1, 1), 2, sheet(63)},
	} {
		if n, left, ok := impl.ShrinkLeft(c.s, c.stamp); !ok || n != c.n || left != c.left {
			t.Errorf("ShrinkLeft(%v, %v) = %d, %v, %v", c.s, c.stamp, n, left, ok)
		}
	}
	times := map[int]int{}
	for _, stamp := range append(edgeStamps(), stampsOf(20)...) {
		for _, s := range someTargets(stamp) {
			left, want := s, 0
			for next := shrunkBy(s, stamp); want < 12 && left != white && next != white; next = shrunkBy(next, stamp) {
				left = next
				want++
			}
			n, got, ok := impl.ShrinkLeft(s, stamp)
			if !ok || n != want || got != left {
				t.Fatalf("ShrinkLeft(%v, %v) = %d, %v, %v, not %d, %v", s, stamp, n, got, ok, want, left)
			}
			times[n]++
		}
	}
	for _, n := range []int{0, 1, 2, 3, 4, 5, 6, 7, 8, 9, 12} {
		if times[n] == 0 {
			t.Errorf("no sheet of the test can be shrunk just %d times", n)
		}
	}
}

func TestIsOpenedAndIsClosed(t *testing.T) {
	for _, c := range []struct {
		s, stamp       impl.Sheet
		opened, closed bool
	}{
		{white, white, true, false}, {unit, white, false, false}, {uneven, white, false, false}, {full, white, false, true}, {white, unit, true, true}, {white, full, true, true},
		{full, full, true, true}, {full, sheet(3), true, true}, {unit, full, false, false}, {holed, full, false, false}, {uneven, unit, true, true}, {uneven, sheet(2), true, true},
		{sheet(3, 1), sheet(3), false, true}, {sheet(3), sheet(3), true, true}, {sheet(3), sheet(6), true, true}, {sheet(33), sheet(6), true, true}, {sheet(5), sheet(3), false, false},
		{sheet(7), sheet(3), true, true}, {sheet(5), sheet(5), true, false}, {sheet(21), sheet(5), true, true}, {sheet(17), sheet(3), false, false}, {holed, sheet(3), true, false},
	} {
		opened, one := impl.IsOpened(c.s, c.stamp)
		closed, two := impl.IsClosed(c.s, c.stamp)
		if !one || !two || opened != c.opened || closed != c.closed {
			t.Errorf("%v by %v: IsOpened %v, %v, IsClosed %v, %v", c.s, c.stamp, opened, one, closed, two)
		}
	}
	for _, r := range reports() {
		both := map[bool]int{}
		for _, stamp := range edgeStamps() {
			for _, s := range someTargets(stamp) {
				is, ok := r.call(s, stamp)
				if !ok || is != (r.want(s, stamp) == s) {
					t.Fatalf("%s(%v, %v) = %v, %v", r.name, s, stamp, is, ok)
				}
				both[is]++
			}
		}
		if both[true] < 500 || both[false] < 500 {
			t.Errorf("%s is true for %d sheets and false for %d", r.name, both[true], both[false])
		}
	}
}

func TestSumStamp(t *testing.T) {
	checkChange(t, "SumStamp", impl.SumStamp, [][3]impl.Sheet{
		{white, white, white}, {white, full, white}, {uneven, white, white}, {full, unit, full}, {full, full, full}, {unit, unit, unit}, {unit, uneven, uneven}, {uneven, unit, uneven},
		{sheet(3), sheet(3), sheet(7)}, {sheet(2), sheet(32), unit}, {sheet(0, 2), sheet(0, 0, 0, 0, 0, 32), unit}, {sheet(3), sheet(1, 1), sheet(3, 3)}, {sheet(6), sheet(32), sheet(3)},
	})
	for _, a := range edgeStamps() {
		for _, b := range edgeStamps() {
			sum, one := impl.SumStamp(a, b)
			other, two := impl.SumStamp(b, a)
			if !one || !two || sum != other {
				t.Fatalf("SumStamp of %v and %v = %v, %v, and %v, %v", a, b, sum, one, other, two)
			}
			for _, s := range append(smallStamps(), white, full, holed) {
				first, one := impl.SpreadSheet(s, a)
				behind, two := impl.SpreadSheet(first, b)
				if got, ok := impl.SpreadSheet(s, sum); !ok || !one || !two || got != behind {
					t.Fatalf("%v by the sum %v is %v, and by %v and %v it is %v", s, sum, got, a, b, behind)
				}
			}
		}
	}
}

func TestSpreadIsPartJustAsTheShrunkOneHasIt(t *testing.T) {
	both := map[bool]int{}
	for _, stamp := range edgeStamps() {
		for _, s := range append(smallStamps(), white, full, holed) {
			spread, one := impl.SpreadSheet(s, stamp)
			targets := append(someSheets(6), spread, either(spread, uneven), either(spread, thirteen))
			for _, cell := range gridOf(spread).cells() {
				targets = append(targets, without(spread, oneCell(cell)))
			}
			for _, target := range targets {
				shrunk, two := impl.ShrinkSheet(target, stamp)
				spreadIs, three := impl.IsPart(spread, target)
				is, four := impl.IsPart(s, shrunk)
				if !one || !two || !three || !four || spreadIs != is {
					t.Fatalf("by %v, %v is spread to %v, and %v is shrunk to %v", stamp, s, spread, target, shrunk)
				}
				both[is]++
			}
		}
	}
	if both[true] < 1000 || both[false] < 1000 {
		t.Errorf("%d of the sheets are part, %d are not", both[true], both[false])
	}
}

func TestOtherOfASpreadSheetIsShrunkByTheReflection(t *testing.T) {
	for _, stamp := range edgeStamps() {
		back, one := impl.ReflectSheet(stamp)
		for _, s := range someTargets(stamp) {
			spread, two := impl.SpreadSheet(s, stamp)
			rest, three := impl.OtherOf(spread)
			other, four := impl.OtherOf(s)
			if shrunk, ok := impl.ShrinkSheet(other, back); !ok || !one || !two || !three || !four || shrunk != rest {
				t.Fatalf("%v is spread by %v to %v, and the other one shrunk by %v is %v", s, stamp, spread, back, shrunk)
			}
		}
	}
}

func TestOpeningAndClosingOnceForAll(t *testing.T) {
	for _, stamp := range append(edgeStamps(), stampsOf(10)...) {
		for _, s := range someTargets(stamp) {
			opened, one := impl.OpenSheet(s, stamp)
			again, two := impl.OpenSheet(opened, stamp)
			is, three := impl.IsOpened(opened, stamp)
			if !one || !two || !three || again != opened || !is {
				t.Fatalf("%v is opened by %v to %v, and then to %v", s, stamp, opened, again)
			}
			closed, one := impl.CloseSheet(s, stamp)
			again, two = impl.CloseSheet(closed, stamp)
			is, three = impl.IsClosed(closed, stamp)
			if !one || !two || !three || again != closed || !is {
				t.Fatalf("%v is closed by %v to %v, and then to %v", s, stamp, closed, again)
			}
			below, one := impl.IsPart(opened, s)
			above, two := impl.IsPart(s, closed)
			if !one || !two || !below || !above {
				t.Fatalf("%v is opened by %v to %v, and closed to %v", s, stamp, opened, closed)
			}
		}
	}
}

func TestInvalidSheetsAreNotReflected(t *testing.T) {
	for _, bad := range badSheets() {
		s, ok := impl.ReflectSheet(bad)
		checkNoSheet(t, "ReflectSheet", s, ok)
	}
}

func TestInvalidSheetOrStampFails(t *testing.T) {
	for _, bad := range badSheets() {
		for _, other := range []impl.Sheet{white, full, bad, unit, uneven} {
			for _, two := range [][2]impl.Sheet{{bad, other}, {other, bad}} {
				for _, c := range changes() {
					s, ok := c.call(two[0], two[1])
					checkNoSheet(t, c.name, s, ok)
				}
				for _, r := range reports() {
					if is, ok := r.call(two[0], two[1]); ok || is {
						t.Errorf("%s(%v, %v) = %v, %v", r.name, two[0], two[1], is, ok)
					}
				}
				for _, n := range []int{0, 1, 12, -1, 13, math.MaxInt, math.MinInt} {
					s, ok := impl.SpreadTimes(two[0], two[1], n)
					checkNoSheet(t, "SpreadTimes", s, ok)
				}
				if n, ok := impl.TimesToFill(two[0], two[1]); ok || n != 0 {
					t.Errorf("TimesToFill(%v, %v) = %d, %v", two[0], two[1], n, ok)
				}
				n, left, ok := impl.ShrinkLeft(two[0], two[1])
				checkNoSheet(t, "ShrinkLeft", left, ok || n != 0)
			}
		}
	}
}

func TestInvalidSheetHitOrMissFails(t *testing.T) {
	for _, bad := range badSheets() {
		for _, a := range []impl.Sheet{white, full, bad, unit} {
			for _, b := range []impl.Sheet{white, full, bad, uneven} {
				for _, three := range [][3]impl.Sheet{{bad, a, b}, {a, bad, b}, {a, b, bad}} {
					s, ok := impl.HitSheet(three[0], three[1], three[2])
					checkNoSheet(t, "HitSheet", s, ok)
				}
			}
		}
	}
}

// The steps keep nothing of a stamp for the next one.
func TestSpreadingSameResultsAgain(t *testing.T) {
	for range 3 {
		for _, c := range changes() {
			first, _ := c.call(uneven, sheet(3))
			c.call(holed, full)
			c.call(sheet(-1), sheet(64))
			if again, ok := c.call(uneven, sheet(3)); !ok || again != first || first != c.want(uneven, sheet(3)) {
				t.Errorf("%s gives %v and then %v, %v", c.name, first, again, ok)
			}
		}
		if n, left, ok := impl.ShrinkLeft(sheet(7), sheet(3)); !ok || n != 2 || left != unit {
			t.Errorf("ShrinkLeft = %d, %v, %v", n, left, ok)
		}
	}
}
