package tests

import (
	"math"
	"math/rand"
	"slices"
	"strings"
	"testing"

	"loop.example/g01220/impl"
)

// A grid tells the color of each cell by its row and then its column, true if it is black.
type grid [6][6]bool

func gridOf(s impl.Sheet) grid {
	var g grid
	for y, row := range s.Rows {
		for x := range 6 {
			g[y][x] = row%2 == 1
			row /= 2
		}
	}
	return g
}

func (g grid) sheet() impl.Sheet {
	var s impl.Sheet
	for y := range 6 {
		value := 1
		for x := range 6 {
			if g[y][x] {
				s.Rows[y] += value
			}
			value *= 2
		}
	}
	return s
}

// each makes a grid of the colors that a rule gives for all pairs of cells of two grids.
func each(a, b grid, rule func(bool, bool) bool) grid {
	var g grid
	for y := range 6 {
		for x := range 6 {
			g[y][x] = rule(a[y][x], b[y][x])
		}
	}
	return g
}

// moved takes dx and dy in 0..5.
func (g grid) moved(dx, dy int) grid {
	var to grid
	for y := range 6 {
		for x := range 6 {
			to[(y+dy)%6][(x+dx)%6] = g[y][x]
		}
	}
	return to
}

func (g grid) cells() [][2]int {
	var cells [][2]int
	for y := range 6 {
		for x := range 6 {
			if g[y][x] {
				cells = append(cells, [2]int{x, y})
			}
		}
	}
	return cells
}

func sheet(rows ...int) impl.Sheet {
	var s impl.Sheet
	copy(s.Rows[:], rows)
	return s
}

var (
	white = impl.Sheet{}
	full  = sheet(63, 63, 63, 63, 63, 63)
)

// someSheets gives the white sheet, the full one, those with one black cell, and others, n of them by a fixed series of numbers.
func someSheets(n int) []impl.Sheet {
	all := []impl.Sheet{white, full, sheet(1, 2, 4, 8, 16, 32), sheet(63), sheet(1, 1, 1, 1, 1, 1), sheet(0, 0, 0, 0, 0, 63),
		sheet(32, 32, 32, 32, 32, 32), sheet(21, 42, 21, 42, 21, 42), sheet(33, 0, 0, 0, 0, 33), sheet(62, 61, 59, 55, 47, 31)}
	for _, cell := range allCells() {
		all = append(all, oneCell(cell))
	}
	source := rand.New(rand.NewSource(2))
	for i := range n {
		var s impl.Sheet
		for y := range s.Rows {
			s.Rows[y] = source.Intn(64)
			if i%3 == 1 {
				s.Rows[y] &= source.Intn(64)
			}
			if i%3 == 2 {
				s.Rows[y] |= source.Intn(64)
			}
		}
		all = append(all, s)
	}
	return all
}

func allCells() [][2]int {
	var cells [][2]int
	for y := range 6 {
		for x := range 6 {
			cells = append(cells, [2]int{x, y})
		}
	}
	return cells
}

func oneCell(cell [2]int) impl.Sheet {
	var g grid
	g[cell[1]][cell[0]] = true
	return g.sheet()
}

// badSheets have one row, or all of them, outside 0..63.
func badSheets() []impl.Sheet {
	var bad []impl.Sheet
	for _, row := range []int{-1, -2, -63, -64, 64, 65, 127, 128, 1 << 32, 1<<32 + 1, math.MaxInt, math.MinInt, math.MinInt + 1} {
		for y := range 6 {
			for _, s := range []impl.Sheet{white, full, sheet(1, 2, 4, 8, 16, 32)} {
				s.Rows[y] = row
				bad = append(bad, s)
			}
		}
		bad = append(bad, sheet(row, row, row, row, row, row))
	}
	return bad
}

func badCells() [][2]int {
	var bad [][2]int
	for _, n := range []int{-1, -5, -6, 6, 7, 12, 63, 64, 1 << 32, math.MaxInt, math.MaxInt - 1, math.MinInt, math.MinInt + 1} {
		bad = append(bad, [2]int{n, 0}, [2]int{0, n}, [2]int{n, 5}, [2]int{5, n}, [2]int{n, n}, [2]int{n, 3}, [2]int{2, n})
	}
	return bad
}

// A pair is one of the functions that take two sheets and return one, with what it does to two cells.
type pair struct {
	name string
	call func(impl.Sheet, impl.Sheet) (impl.Sheet, bool)
	rule func(bool, bool) bool
}

func pairs() []pair {
	return []pair{
		{"BothOf", impl.BothOf, func(a, b bool) bool { return a && b }},
		{"EitherOf", impl.EitherOf, func(a, b bool) bool { return a || b }},
		{"DifferOf", impl.DifferOf, func(a, b bool) bool { return a != b }},
	}
}

// A press is one of the three ways to press, with what it does to a cell and the one of the stamp on it.
type press struct {
	name string
	call func(impl.Sheet, impl.Sheet, [2]int) (impl.Sheet, bool)
	rule func(cell, stamp bool) bool
}

func presses() []press {
	return []press{
		{"ToggleAt", impl.ToggleAt, func(cell, stamp bool) bool { return cell != stamp }},
		{"InkAt", impl.InkAt, func(cell, stamp bool) bool { return cell || stamp }},
		{"WipeAt", impl.WipeAt, func(cell, stamp bool) bool { return cell && !stamp }},
	}
}

func TestSizeIsSix(t *testing.T) {
	if impl.Size != 6 {
		t.Error("Size", impl.Size)
	}
}

func TestIsSheet(t *testing.T) {
	for _, s := range someSheets(200) {
		if !impl.IsSheet(s) {
			t.Errorf("IsSheet(%v) is false", s)
		}
	}
	for _, s := range badSheets() {
		if impl.IsSheet(s) {
			t.Errorf("IsSheet(%v) is true", s)
		}
	}
	for row := -200; row <= 200; row++ {
		for y := range 6 {
			s := sheet(0, 63, 5, 63, 0, 1)
			s.Rows[y] = row
			if impl.IsSheet(s) != (row >= 0 && row <= 63) {
				t.Errorf("IsSheet(%v) is wrong", s)
			}
		}
	}
}

func TestIsBlackAndFlipCell(t *testing.T) {
	for _, s := range someSheets(100) {
		g := gridOf(s)
		for _, cell := range allCells() {
			black, ok := impl.IsBlack(s, cell)
			if !ok || black != g[cell[1]][cell[0]] {
				t.Fatalf("IsBlack(%v, %v) = %v, %v", s, cell, black, ok)
			}
			want := g
			want[cell[1]][cell[0]] = !black
			flipped, ok := impl.FlipCell(s, cell)
			if !ok || flipped != want.sheet() {
				t.Fatalf("FlipCell(%v, %v) = %v, %v", s, cell, flipped, ok)
			}
			if back, ok := impl.FlipCell(flipped, cell); !ok || back != s {
				t.Fatalf("FlipCell(%v, %v) = %v, %v", flipped, cell, back, ok)
			}
		}
	}
	for _, c := range []struct {
		cell [2]int
		want impl.Sheet
	}{
		{[2]int{0, 0}, sheet(1)}, {[2]int{5, 0}, sheet(32)}, {[2]int{0, 5}, sheet(0, 0, 0, 0, 0, 1)},
		{[2]int{5, 5}, sheet(0, 0, 0, 0, 0, 32)}, {[2]int{3, 1}, sheet(0, 8)},
	} {
		if s, ok := impl.FlipCell(white, c.cell); !ok || s != c.want {
			t.Errorf("FlipCell of the white sheet at %v = %v, %v", c.cell, s, ok)
		}
		if black, ok := impl.IsBlack(c.want, c.cell); !ok || !black {
			t.Errorf("IsBlack(%v, %v) = %v, %v", c.want, c.cell, black, ok)
		}
	}
}

func TestSizeOf(t *testing.T) {
	for _, c := range []struct {
		s    impl.Sheet
		want int
	}{
		{white, 0}, {full, 36}, {sheet(63), 6}, {sheet(1, 2, 4, 8, 16, 32), 6}, {sheet(1, 2), 2}, {sheet(7, 0, 0, 0, 0, 35), 6},
	} {
		if n, ok := impl.SizeOf(c.s); !ok || n != c.want {
			t.Errorf("SizeOf(%v) = %d, %v", c.s, n, ok)
		}
	}
	for _, s := range someSheets(200) {
		if n, ok := impl.SizeOf(s); !ok || n != len(gridOf(s).cells()) {
			t.Errorf("SizeOf(%v) = %d, %v", s, n, ok)
		}
	}
}

func TestShiftSheet(t *testing.T) {
	for _, c := range []struct {
		s      impl.Sheet
		dx, dy int
		want   impl.Sheet
	}{
		{sheet(1, 2), 1, 0, sheet(2, 4)},
		{sheet(1, 2), -1, 0, sheet(32, 1)},
		{sheet(1, 2), 0, 1, sheet(0, 1, 2)},
		{sheet(1, 2), 0, -1, sheet(2, 0, 0, 0, 0, 1)},
		{sheet(1, 2), 2, 3, sheet(0, 0, 0, 4, 8)},
		{sheet(1, 2), 5, 5, sheet(1, 0, 0, 0, 0, 32)},
		{sheet(0, 0, 0, 0, 0, 32), 1, 1, sheet(1)},
		{sheet(1), -1, -1, sheet(0, 0, 0, 0, 0, 32)},
		{sheet(63), 4, 0, sheet(63)},
	} {
		if s, ok := impl.ShiftSheet(c.s, c.dx, c.dy); !ok || s != c.want {
			t.Errorf("ShiftSheet(%v, %d, %d) = %v, %v", c.s, c.dx, c.dy, s, ok)
		}
	}
	for _, s := range someSheets(30) {
		g := gridOf(s)
		for dx := -13; dx <= 13; dx++ {
			for dy := -13; dy <= 13; dy++ {
				want := g.moved((dx+18)%6, (dy+18)%6).sheet()
				if got, ok := impl.ShiftSheet(s, dx, dy); !ok || got != want {
					t.Fatalf("ShiftSheet(%v, %d, %d) = %v, %v", s, dx, dy, got, ok)
				}
			}
		}
	}
}

// The remainders are worked out by hand: 2 to the power of 63 leaves 2, and of 62 it leaves 4.
func TestShiftsByGreatNumbers(t *testing.T) {
	remainders := []struct{ n, by int }{
		{math.MaxInt, 1}, {math.MaxInt - 1, 0}, {math.MaxInt - 2, 5}, {math.MinInt, 4}, {math.MinInt + 1, 5}, {math.MinInt + 4, 2},
		{1 << 62, 4}, {-1 << 62, 2}, {1 << 32, 4}, {-1 << 32, 2}, {6000000, 0}, {-6000000, 0}, {-6000001, 5},
	}
	for _, s := range append(someSheets(10), sheet(1, 2)) {
		g := gridOf(s)
		for _, a := range remainders {
			for _, b := range remainders {
				want := g.moved(a.by, b.by).sheet()
				if got, ok := impl.ShiftSheet(s, a.n, b.n); !ok || got != want {
					t.Fatalf("ShiftSheet(%v, %d, %d) = %v, %v", s, a.n, b.n, got, ok)
				}
			}
		}
	}
}

func TestShiftsBySixChangeNothing(t *testing.T) {
	for _, s := range someSheets(200) {
		for _, by := range [][2]int{{0, 0}, {6, 0}, {0, 6}, {6, 6}, {-6, 0}, {0, -6}, {-6, 6}, {12, -18}, {math.MaxInt - 1, 0}, {0, math.MaxInt - 1}} {
			if got, ok := impl.ShiftSheet(s, by[0], by[1]); !ok || got != s {
				t.Fatalf("ShiftSheet(%v, %d, %d) = %v, %v", s, by[0], by[1], got, ok)
			}
		}
		once, _ := impl.ShiftSheet(s, 5, -4)
		if back, ok := impl.ShiftSheet(once, 1, -2); !ok || back != s {
			t.Fatalf("two shifts by 6 together make %v of %v, %v", back, s, ok)
		}
	}
}

func TestPresses(t *testing.T) {
	s, stamp := sheet(1, 2), sheet(3)
	corner := [2]int{5, 5}
	square := sheet(3, 3)
	around := sheet(33, 0, 0, 0, 0, 33)
	for i, want := range []struct{ plain, onWhite, onFull, same impl.Sheet }{
		{sheet(2, 2), around, sheet(30, 63, 63, 63, 63, 30), white},
		{sheet(3, 2), around, full, around},
		{sheet(0, 2), white, sheet(30, 63, 63, 63, 63, 30), white},
	} {
		p := presses()[i]
		for _, c := range []struct {
			s, stamp impl.Sheet
			cell     [2]int
			want     impl.Sheet
		}{
			{s, stamp, [2]int{0, 0}, want.plain},
			{white, square, corner, want.onWhite},
			{full, square, corner, want.onFull},
			{around, square, corner, want.same},
			{s, white, [2]int{2, 3}, s},
			{white, white, corner, white},
		} {
			if got, ok := p.call(c.s, c.stamp, c.cell); !ok || got != c.want {
				t.Errorf("%s(%v, %v, %v) = %v, %v", p.name, c.s, c.stamp, c.cell, got, ok)
			}
		}
	}
	for _, p := range presses() {
		for _, s := range someSheets(12) {
			for _, stamp := range someSheets(12) {
				for _, cell := range allCells() {
					want := each(gridOf(s), gridOf(stamp).moved(cell[0], cell[1]), p.rule).sheet()
					if got, ok := p.call(s, stamp, cell); !ok || got != want {
						t.Fatalf("%s(%v, %v, %v) = %v, %v", p.name, s, stamp, cell, got, ok)
					}
				}
			}
		}
	}
}

// To ink twice, or to wipe twice, is to do so once; to toggle twice changes nothing.
func TestPressesTwice(t *testing.T) {
	for _, s := range someSheets(20) {
		for _, stamp := range someSheets(20) {
			for _, cell := range allCells() {
				for i, p := range presses() {
					once, one := p.call(s, stamp, cell)
					twice, two := p.call(once, stamp, cell)
					want := once
					if i == 0 {
						want = s
					}
					if !one || !two || twice != want {
						t.Fatalf("%s(%v, %v, %v) twice gives %v, %v, %v", p.name, s, stamp, cell, twice, one, two)
					}
				}
			}
		}
	}
}

func TestPairsOfSheets(t *testing.T) {
	for _, p := range pairs() {
		for _, a := range someSheets(60) {
			for _, b := range someSheets(60) {
				want := each(gridOf(a), gridOf(b), p.rule).sheet()
				if got, ok := p.call(a, b); !ok || got != want {
					t.Fatalf("%s(%v, %v) = %v, %v", p.name, a, b, got, ok)
				}
			}
		}
	}
	a, b := sheet(1, 2), sheet(3)
	for i, want := range []impl.Sheet{sheet(1), sheet(3, 2), sheet(2, 2)} {
		if got, ok := pairs()[i].call(a, b); !ok || got != want {
			t.Errorf("%s(%v, %v) = %v, %v", pairs()[i].name, a, b, got, ok)
		}
	}
}

func TestSizesOfBothAndOfEither(t *testing.T) {
	for _, a := range someSheets(100) {
		for _, b := range someSheets(100) {
			both, one := impl.BothOf(a, b)
			either, two := impl.EitherOf(a, b)
			sum := 0
			for i, s := range []impl.Sheet{both, either, a, b} {
				n, ok := impl.SizeOf(s)
				if !ok {
					t.Fatalf("SizeOf(%v) fails", s)
				}
				if i < 2 {
					sum += n
				} else {
					sum -= n
				}
			}
			if !one || !two || sum != 0 {
				t.Fatalf("both %v and either %v of %v and %v have other sizes", both, either, a, b)
			}
		}
	}
}

func TestOtherOf(t *testing.T) {
	for _, c := range [][2]impl.Sheet{{white, full}, {full, white}, {sheet(1, 2, 4, 8, 16, 32), sheet(62, 61, 59, 55, 47, 31)}} {
		if s, ok := impl.OtherOf(c[0]); !ok || s != c[1] {
			t.Errorf("OtherOf(%v) = %v, %v", c[0], s, ok)
		}
	}
	for _, s := range someSheets(200) {
		want := each(gridOf(s), grid{}, func(a, _ bool) bool { return !a }).sheet()
		if got, ok := impl.OtherOf(s); !ok || got != want {
			t.Errorf("OtherOf(%v) = %v, %v", s, got, ok)
		}
	}
}

func TestIsPart(t *testing.T) {
	for _, c := range []struct {
		a, b impl.Sheet
		want bool
	}{
		{white, white, true}, {white, full, true}, {full, white, false}, {full, full, true}, {sheet(1), sheet(1, 2), true},
		{sheet(1, 2), sheet(1), false}, {sheet(0, 2), sheet(1, 2), true}, {sheet(2), sheet(1, 2), false}, {sheet(3), sheet(1), false},
		{white, sheet(1), true}, {sheet(0, 0, 0, 0, 0, 32), sheet(0, 0, 0, 0, 0, 33), true}, {sheet(0, 0, 0, 0, 0, 33), sheet(0, 0, 0, 0, 0, 32), false},
	} {
		if part, ok := impl.IsPart(c.a, c.b); !ok || part != c.want {
			t.Errorf("IsPart(%v, %v) = %v, %v", c.a, c.b, part, ok)
		}
	}
	for _, a := range someSheets(60) {
		for _, b := range someSheets(60) {
			want := each(gridOf(a), gridOf(b), func(a, b bool) bool { return a && !b }) == grid{}
			if part, ok := impl.IsPart(a, b); !ok || part != want {
				t.Fatalf("IsPart(%v, %v) = %v, %v", a, b, part, ok)
			}
			both, _ := impl.BothOf(a, b)
			if part, ok := impl.IsPart(both, b); !ok || !part {
				t.Fatalf("IsPart(%v, %v) = %v, %v", both, b, part, ok)
			}
		}
	}
}

func TestCellsOf(t *testing.T) {
	for _, c := range []struct {
		s    impl.Sheet
		want [][2]int
	}{
		{white, nil},
		{full, allCells()},
		{sheet(1, 2), [][2]int{{0, 0}, {1, 1}}},
		{sheet(33, 0, 0, 0, 0, 33), [][2]int{{0, 0}, {5, 0}, {0, 5}, {5, 5}}},
		{sheet(0, 0, 12, 1), [][2]int{{2, 2}, {3, 2}, {0, 3}}},
	} {
		if cells, ok := impl.CellsOf(c.s); !ok || !slices.Equal(cells, c.want) {
			t.Errorf("CellsOf(%v) = %v, %v", c.s, cells, ok)
		}
	}
	for _, s := range someSheets(200) {
		cells, ok := impl.CellsOf(s)
		if !ok || !slices.Equal(cells, gridOf(s).cells()) {
			t.Errorf("CellsOf(%v) = %v, %v", s, cells, ok)
		}
		if back, ok := impl.SheetOf(cells); !ok || back != s {
			t.Errorf("SheetOf(%v) = %v, %v", cells, back, ok)
		}
		slices.Reverse(cells)
		if back, ok := impl.SheetOf(append(cells, cells...)); !ok || back != s {
			t.Errorf("SheetOf(%v twice) = %v, %v", cells, back, ok)
		}
	}
}

func TestSheetOf(t *testing.T) {
	for _, c := range []struct {
		cells [][2]int
		want  impl.Sheet
	}{
		{nil, white},
		{[][2]int{}, white},
		{[][2]int{{0, 0}}, sheet(1)},
		{[][2]int{{0, 0}, {5, 0}, {0, 5}, {5, 5}}, sheet(33, 0, 0, 0, 0, 33)},
		{[][2]int{{5, 5}, {0, 0}, {5, 0}}, sheet(33, 0, 0, 0, 0, 32)},
		{[][2]int{{1, 2}, {1, 2}}, sheet(0, 0, 2)},
		{[][2]int{{1, 2}, {3, 4}, {1, 2}, {1, 2}, {3, 4}}, sheet(0, 0, 2, 0, 8)},
		{make([][2]int, 100000), sheet(1)},
	} {
		if s, ok := impl.SheetOf(c.cells); !ok || s != c.want {
			t.Errorf("SheetOf of %d cells = %v, %v", len(c.cells), s, ok)
		}
	}
	for _, bad := range badCells() {
		for _, cells := range [][][2]int{{bad}, {bad, {1, 1}}, {{1, 1}, bad}, {{0, 0}, bad, {5, 5}}, append(allCells(), bad)} {
			if s, ok := impl.SheetOf(cells); ok || s != white {
				t.Errorf("SheetOf(%v) = %v, %v", cells, s, ok)
			}
		}
	}
}

func TestLessSheet(t *testing.T) {
	for _, c := range []struct {
		a, b impl.Sheet
		want bool
	}{
		{white, white, false}, {white, full, true}, {full, white, false}, {full, full, false}, {sheet(1, 2), sheet(3), true},
		{sheet(3), sheet(1, 2), false}, {sheet(0, 63, 63, 63, 63, 63), sheet(1), true}, {sheet(1), sheet(0, 63, 63, 63, 63, 63), false},
		{sheet(5, 1, 63), sheet(5, 2), true}, {sheet(5, 2), sheet(5, 1, 63), false}, {sheet(9, 9, 9, 9, 9, 8), sheet(9, 9, 9, 9, 9, 9), true},
		{sheet(9, 9, 9, 9, 9, 9), sheet(9, 9, 9, 9, 9, 8), false}, {sheet(2), sheet(10), true}, {sheet(31), sheet(32), true},
	} {
		if less, ok := impl.LessSheet(c.a, c.b); !ok || less != c.want {
			t.Errorf("LessSheet(%v, %v) = %v, %v", c.a, c.b, less, ok)
		}
	}
	// Rows as the digits of one number are compared as the rows are.
	value := func(s impl.Sheet) int {
		n := 0
		for _, row := range s.Rows {
			n = 64*n + row
		}
		return n
	}
	for _, a := range someSheets(60) {
		for _, b := range someSheets(60) {
			if less, ok := impl.LessSheet(a, b); !ok || less != (value(a) < value(b)) {
				t.Fatalf("LessSheet(%v, %v) = %v, %v", a, b, less, ok)
			}
		}
	}
}

func textOf(s impl.Sheet) string {
	rows := make([]string, 6)
	for y, row := range gridOf(s) {
		for _, black := range row {
			if black {
				rows[y] += "#"
			} else {
				rows[y] += "."
			}
		}
	}
	return strings.Join(rows, "/")
}

func TestSheetText(t *testing.T) {
	for _, c := range []struct {
		s    impl.Sheet
		want string
	}{
		{white, "....../....../....../....../....../......"},
		{full, "######/######/######/######/######/######"},
		{sheet(1, 2), "#...../.#..../....../....../....../......"},
		{sheet(33, 0, 0, 0, 0, 32), "#....#/....../....../....../....../.....#"},
		{sheet(0, 0, 0, 7, 0, 1), "....../....../....../###.../....../#....."},
	} {
		if text, ok := impl.SheetText(c.s); !ok || text != c.want {
			t.Errorf("SheetText(%v) = %q, %v", c.s, text, ok)
		}
		if s, ok := impl.ParseSheet(c.want); !ok || s != c.s {
			t.Errorf("ParseSheet(%q) = %v, %v", c.want, s, ok)
		}
	}
	for _, s := range someSheets(300) {
		text, ok := impl.SheetText(s)
		if !ok || text != textOf(s) {
			t.Errorf("SheetText(%v) = %q, %v", s, text, ok)
		}
		if back, ok := impl.ParseSheet(text); !ok || back != s {
			t.Errorf("ParseSheet(%q) = %v, %v", text, back, ok)
		}
	}
}

func TestParseSheetTakesNothingElse(t *testing.T) {
	row := "......"
	join := func(rows ...string) string { return strings.Join(rows, "/") }
	for _, text := range []string{
		"", "/", "/////", row, join(row, row, row, row, row), join(row, row, row, row, row, row, row), textOf(white) + "/",
		"/" + textOf(white), textOf(white) + "\n", " " + textOf(white), textOf(white) + ".", textOf(full) + "#",
		textOf(white)[1:], textOf(white)[:40], join("", row, row, row, row, row), join(row, row, row, row, row, ""),
		join(".....", ".......", row, row, row, row), join(".......", ".....", row, row, row, row), join(row, row, row, row, ".....", "......."),
		join("......"+row, row, row, row, row), strings.ReplaceAll(textOf(white), "/", "\n"), strings.ReplaceAll(textOf(white), "/", ""),
		strings.ReplaceAll(textOf(white), "/", "//"), strings.ReplaceAll(textOf(full), "#", "1"), strings.ReplaceAll(textOf(full), "#", "X"),
		strings.ReplaceAll(textOf(white), ".", " "), strings.ReplaceAll(textOf(white), ".", "\xc2\xb7"), strings.Repeat(".", 41),
		strings.Repeat("/", 41), strings.Repeat("#", 36), strings.Repeat("/", impl.MaxString+1), strings.Repeat(".", 1000000), "\x00", "\xff",
		textOf(white) + textOf(white), join(textOf(white), textOf(white)),
	} {
		if s, ok := impl.ParseSheet(text); ok || s != white {
			t.Errorf("ParseSheet(%.60q) = %v, %v", text, s, ok)
		}
	}
	for _, s := range []impl.Sheet{white, full, sheet(1, 2, 4, 8, 16, 32), sheet(21, 42, 0, 63, 7, 56)} {
		text := textOf(s)
		for i := range len(text) {
			for c := range 256 {
				checkChangedSheet(t, text[:i]+string([]byte{byte(c)})+text[i+1:])
			}
			checkChangedSheet(t, text[:i])
			checkChangedSheet(t, text[:i]+text[i+1:])
			for _, sign := range []string{".", "#", "/"} {
				checkChangedSheet(t, text[:i]+sign+text[i:])
			}
		}
	}
}

// checkChangedSheet asks ParseSheet for just the texts with six rows of six signs.
func checkChangedSheet(t *testing.T, text string) {
	t.Helper()
	is := len(text) == 41
	for i := range len(text) {
		if i%7 == 6 {
			is = is && text[i] == '/'
		} else {
			is = is && (text[i] == '.' || text[i] == '#')
		}
	}
	s, ok := impl.ParseSheet(text)
	if ok != is || !ok && s != white || ok && textOf(s) != text {
		t.Fatalf("ParseSheet(%q) = %v, %v", text, s, ok)
	}
}

func checkNoSheet(t *testing.T, name string, s impl.Sheet, ok bool) {
	t.Helper()
	if ok || s != white {
		t.Errorf("%s of an invalid argument = %v, %v", name, s, ok)
	}
}

func TestInvalidSheetsFail(t *testing.T) {
	for _, bad := range badSheets() {
		for _, cell := range allCells() {
			if black, ok := impl.IsBlack(bad, cell); ok || black {
				t.Errorf("IsBlack(%v, %v) = %v, %v", bad, cell, black, ok)
			}
			s, ok := impl.FlipCell(bad, cell)
			checkNoSheet(t, "FlipCell", s, ok)
			s, ok = impl.ShiftSheet(bad, cell[0], cell[1])
			checkNoSheet(t, "ShiftSheet", s, ok)
		}
		s, ok := impl.OtherOf(bad)
		checkNoSheet(t, "OtherOf", s, ok)
		if n, ok := impl.SizeOf(bad); ok || n != 0 {
			t.Errorf("SizeOf(%v) = %d, %v", bad, n, ok)
		}
		if cells, ok := impl.CellsOf(bad); ok || len(cells) != 0 {
			t.Errorf("CellsOf(%v) = %v, %v", bad, cells, ok)
		}
		if text, ok := impl.SheetText(bad); ok || text != "" {
			t.Errorf("SheetText(%v) = %q, %v", bad, text, ok)
		}
	}
}

func TestInvalidSheetOfTwoFails(t *testing.T) {
	for _, bad := range badSheets() {
		for _, other := range []impl.Sheet{white, full, bad, sheet(1, 2)} {
			for _, two := range [][2]impl.Sheet{{bad, other}, {other, bad}} {
				for _, p := range pairs() {
					s, ok := p.call(two[0], two[1])
					checkNoSheet(t, p.name, s, ok)
				}
				for _, p := range presses() {
					s, ok := p.call(two[0], two[1], [2]int{5, 0})
					checkNoSheet(t, p.name, s, ok)
				}
				if part, ok := impl.IsPart(two[0], two[1]); ok || part {
					t.Errorf("IsPart(%v, %v) = %v, %v", two[0], two[1], part, ok)
				}
				if less, ok := impl.LessSheet(two[0], two[1]); ok || less {
					t.Errorf("LessSheet(%v, %v) = %v, %v", two[0], two[1], less, ok)
				}
			}
		}
	}
}

func TestInvalidCellsFail(t *testing.T) {
	for _, bad := range badCells() {
		for _, s := range []impl.Sheet{white, full, sheet(1, 2, 4, 8, 16, 32), sheet(64)} {
			if black, ok := impl.IsBlack(s, bad); ok || black {
				t.Errorf("IsBlack(%v, %v) = %v, %v", s, bad, black, ok)
			}
			flipped, ok := impl.FlipCell(s, bad)
			checkNoSheet(t, "FlipCell", flipped, ok)
			for _, p := range presses() {
				for _, stamp := range []impl.Sheet{white, full, sheet(3)} {
					got, ok := p.call(s, stamp, bad)
					checkNoSheet(t, p.name, got, ok)
				}
			}
		}
	}
}

func TestSheetsModifyNoArgument(t *testing.T) {
	backing := [][2]int{{5, 5}, {0, 0}, {5, 5}, {9, 9}, {1, 2}}
	before := slices.Clone(backing)
	for n := range len(backing) + 1 {
		impl.SheetOf(backing[:n])
		if !slices.Equal(backing, before) {
			t.Fatalf("SheetOf of %d cells left %v", n, backing)
		}
	}
}

func TestSheetsSameResultsAgain(t *testing.T) {
	for _, s := range []impl.Sheet{full, sheet(1, 2)} {
		first, _ := impl.CellsOf(s)
		for i := range first {
			first[i] = [2]int{-1, -1}
		}
		if again, ok := impl.CellsOf(s); !ok || !slices.Equal(again, gridOf(s).cells()) {
			t.Errorf("second CellsOf(%v) gives %v, %v", s, again, ok)
		}
	}
	cells := [][2]int{{0, 0}, {1, 1}}
	s, _ := impl.SheetOf(cells)
	cells[0] = [2]int{5, 5}
	if s != sheet(1, 2) {
		t.Errorf("the sheet of cells has become %v", s)
	}
	for range 2 {
		if got, ok := impl.ToggleAt(sheet(1, 2), sheet(3), [2]int{0, 0}); !ok || got != sheet(2, 2) {
			t.Errorf("ToggleAt = %v, %v", got, ok)
		}
	}
}
