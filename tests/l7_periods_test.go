package tests

import (
	"math"
	"math/bits"
	"math/rand"
	"slices"
	"testing"

	"loop.example/g01220/impl"
)

func everyVector() [][2]int {
	var vectors [][2]int
	for dx := range 6 {
		for dy := range 6 {
			vectors = append(vectors, [2]int{dx, dy})
		}
	}
	return vectors
}

// sidesOfTiles are the divisors of 6.
var sidesOfTiles = []int{1, 2, 3, 6}

func sumOf(a, b [2]int) [2]int { return [2]int{(a[0] + b[0]) % 6, (a[1] + b[1]) % 6} }

func opposite(a [2]int) [2]int { return [2]int{(6 - a[0]) % 6, (6 - a[1]) % 6} }

func shiftsFrom(a, b impl.Sheet) [][2]int {
	var shifts [][2]int
	for _, vector := range everyVector() {
		if shiftedTo(a, vector) == b {
			shifts = append(shifts, vector)
		}
	}
	return shifts
}

// classOf gives the different shifts of a sheet.
func classOf(s impl.Sheet) []impl.Sheet {
	var class []impl.Sheet
	for _, vector := range everyVector() {
		if shifted := shiftedTo(s, vector); !slices.Contains(class, shifted) {
			class = append(class, shifted)
		}
	}
	return class
}

// isTileBy compares each cell with the one that is w columns, and the one that is h rows, behind it.
func isTileBy(s impl.Sheet, w, h int) bool {
	g := gridOf(s)
	for _, cell := range allCells() {
		x, y := cell[0], cell[1]
		if g[y][x] != g[y][(x+w)%6] || g[y][x] != g[(y+h)%6][x] {
			return false
		}
	}
	return true
}

// tiledBy gives each cell the color that its place in the tile has.
func tiledBy(rows []int, w int) impl.Sheet {
	var g grid
	for _, cell := range allCells() {
		row := rows[cell[1]%len(rows)]
		for range cell[0] % w {
			row /= 2
		}
		g[cell[1]][cell[0]] = row%2 == 1
	}
	return g.sheet()
}

func slantsBy(s impl.Sheet) []int {
	var slants []int
	g := gridOf(s)
dxs:
	for dx := range 6 {
		for _, cell := range allCells() {
			if g[cell[1]][cell[0]] != g[(cell[1]+1)%6][(cell[0]+dx)%6] {
				continue dxs
			}
		}
		slants = append(slants, dx)
	}
	return slants
}

// slantedBy gives each cell the color of the one in the first row from which the slant leads to it.
func slantedBy(row, dx int) impl.Sheet {
	first := gridOf(sheet(row))[0]
	var g grid
	for _, cell := range allCells() {
		g[cell[1]][cell[0]] = first[(cell[0]+36-cell[1]*dx)%6]
	}
	return g.sheet()
}

// meetingsBy counts the pairs of black cells of which the one is a vector behind the other.
func meetingsBy(s impl.Sheet) [6][6]int {
	var meetings [6][6]int
	for _, a := range gridOf(s).cells() {
		for _, b := range gridOf(s).cells() {
			meetings[(b[0]-a[0]+6)%6][(b[1]-a[1]+6)%6]++
		}
	}
	return meetings
}

// orderBy counts both numbers on by themselves until they are multiples of 6 together.
func orderBy(vector [2]int) int {
	n := 1
	for vector[0]*n%6 != 0 || vector[1]*n%6 != 0 {
		n++
	}
	return n
}

// A series of rows of tiles, as many as h, by a fixed series of numbers, with the least and the greatest ones.
func someTiles(w, h int) [][]int {
	source := rand.New(rand.NewSource(7))
	most := 1<<w - 1
	tiles := [][]int{make([]int, h), slices.Repeat([]int{most}, h)}
	for range 12 {
		rows := make([]int, h)
		for y := range rows {
			rows[y] = source.Intn(most + 1)
		}
		tiles = append(tiles, rows)
	}
	for y := range h {
		rows := make([]int, h)
		rows[y] = most
		tiles = append(tiles, rows)
	}
	return tiles
}

// slantedLines are slanted by each number, by rows of one cell, and of others.
func slantedLines() []impl.Sheet {
	var lines []impl.Sheet
	for dx := range 6 {
		for _, row := range []int{1, 2, 32, 3, 5, 9, 21, 27, 45, 62, 63} {
			lines = append(lines, slantedBy(row, dx))
		}
	}
	return lines
}

// sheetsWithPeriods have many periods, few of them, or none but 0, 0.
func sheetsWithPeriods() []impl.Sheet {
	all := slices.Concat(someSheets(40), evenSheets(), periodicStamps(), edgeStamps(), slantedLines(), []impl.Sheet{unit, uneven, holed, thirteen})
	for _, w := range sidesOfTiles {
		for _, h := range sidesOfTiles {
			for _, rows := range someTiles(w, h) {
				all = append(all, tiledBy(rows, w))
			}
		}
	}
	return all
}

// A vectored row of a test has the vectors that a function gives for a sheet.
type vectored struct {
	s    impl.Sheet
	want [][2]int
}

func TestPeriodsOf(t *testing.T) {
	for _, c := range []vectored{
		{white, everyVector()}, {full, everyVector()}, {unit, at(0, 0)}, {sheet(0, 0, 0, 4), at(0, 0)}, {holed, at(0, 0)}, {uneven, at(0, 0)}, {sheet(3, 1), at(0, 0)}, {sheet(5), at(0, 0)},
		{sheet(63), at(0, 0, 1, 0, 2, 0, 3, 0, 4, 0, 5, 0)}, {sheet(0, 0, 63), at(0, 0, 1, 0, 2, 0, 3, 0, 4, 0, 5, 0)}, {sheet(63, 63), at(0, 0, 1, 0, 2, 0, 3, 0, 4, 0, 5, 0)},
		{sheet(1, 1, 1, 1, 1, 1), at(0, 0, 0, 1, 0, 2, 0, 3, 0, 4, 0, 5)}, {sheet(48, 48, 48, 48, 48, 48), at(0, 0, 0, 1, 0, 2, 0, 3, 0, 4, 0, 5)},
		{sheet(21, 42, 21, 42, 21, 42), at(0, 0, 0, 2, 0, 4, 1, 1, 1, 3, 1, 5, 2, 0, 2, 2, 2, 4, 3, 1, 3, 3, 3, 5, 4, 0, 4, 2, 4, 4, 5, 1, 5, 3, 5, 5)},
		{sheet(1, 2, 4, 8, 16, 32), at(0, 0, 1, 1, 2, 2, 3, 3, 4, 4, 5, 5)}, {sheet(62, 61, 59, 55, 47, 31), at(0, 0, 1, 1, 2, 2, 3, 3, 4, 4, 5, 5)}, {sheet(1, 32, 16, 8, 4, 2), at(0, 0, 1, 5, 2, 4, 3, 3, 4, 2, 5, 1)},
		{sheet(1, 4, 16, 1, 4, 16), at(0, 0, 0, 3, 2, 1, 2, 4, 4, 2, 4, 5)}, {sheet(1, 16, 4, 1, 16, 4), at(0, 0, 0, 3, 2, 2, 2, 5, 4, 1, 4, 4)}, {sheet(1, 8, 1, 8, 1, 8), at(0, 0, 0, 2, 0, 4, 3, 1, 3, 3, 3, 5)},
		{sheet(9), at(0, 0, 3, 0)}, {sheet(21), at(0, 0, 2, 0, 4, 0)}, {sheet(1, 0, 0, 1), at(0, 0, 0, 3)}, {sheet(1, 0, 1, 0, 1), at(0, 0, 0, 2, 0, 4)}, {sheet(1, 0, 0, 8), at(0, 0, 3, 3)},
		{sheet(9, 0, 0, 9), at(0, 0, 0, 3, 3, 0, 3, 3)}, {sheet(1, 0, 4, 0, 16), at(0, 0, 2, 2, 4, 4)}, {sheet(27, 27, 0, 27, 27), at(0, 0, 0, 3, 3, 0, 3, 3)},
	} {
		if got, ok := impl.PeriodsOf(c.s); !ok || !slices.Equal(got, c.want) {
			t.Errorf("PeriodsOf(%v) = %v, %v, not %v", c.s, got, ok, c.want)
		}
	}
	many := map[int]int{}
	for _, s := range sheetsWithPeriods() {
		got, ok := impl.PeriodsOf(s)
		if !ok || !slices.Equal(got, shiftsFrom(s, s)) {
			t.Fatalf("PeriodsOf(%v) = %v, %v, not %v", s, got, ok, shiftsFrom(s, s))
		}
		many[len(got)]++
	}
	for _, n := range []int{1, 2, 3, 4, 6, 9, 12, 18, 36} {
		if many[n] < 4 {
			t.Errorf("just %d sheets of the test have %d periods", many[n], n)
		}
	}
}

func TestPeriodsAreAGroup(t *testing.T) {
	for _, s := range sheetsWithPeriods() {
		periods, ok := impl.PeriodsOf(s)
		if !ok || len(periods) == 0 || periods[0] != [2]int{0, 0} || 36%len(periods) != 0 {
			t.Fatalf("PeriodsOf(%v) = %v, %v", s, periods, ok)
		}
		for _, a := range periods {
			if !slices.Contains(periods, opposite(a)) {
				t.Fatalf("%v is a period of %v, and not its opposite: %v", a, s, periods)
			}
			for _, b := range periods {
				if !slices.Contains(periods, sumOf(a, b)) {
					t.Fatalf("%v and %v are periods of %v, and not their sum: %v", a, b, s, periods)
				}
			}
		}
	}
}

func TestPeriodsAreThoseOfEachShiftAndOfTheOther(t *testing.T) {
	for _, s := range sheetsWithPeriods() {
		want, _ := impl.PeriodsOf(s)
		other, _ := impl.OtherOf(s)
		for _, like := range append(classOf(s), other) {
			if got, ok := impl.PeriodsOf(like); !ok || !slices.Equal(got, want) {
				t.Fatalf("PeriodsOf(%v) = %v, %v, and of %v %v", s, want, ok, like, got)
			}
		}
	}
}

func TestShiftsTo(t *testing.T) {
	board := sheet(21, 42, 21, 42, 21, 42)
	checkListings(t, "ShiftsTo", impl.ShiftsTo, []listing{
		{white, white, everyVector()}, {full, full, everyVector()}, {white, full, nil}, {full, white, nil}, {white, unit, nil}, {unit, white, nil}, {full, holed, nil}, {holed, full, nil},
		{unit, unit, at(0, 0)}, {unit, sheet(2), at(1, 0)}, {sheet(2), unit, at(5, 0)}, {unit, sheet(0, 1), at(0, 1)}, {sheet(0, 1), unit, at(0, 5)}, {unit, sheet(0, 0, 0, 0, 0, 32), at(5, 5)}, {unit, sheet(0, 0, 0, 4), at(2, 3)},
		{sheet(3), sheet(33), at(5, 0)}, {sheet(33), sheet(3), at(1, 0)}, {sheet(3), sheet(5), nil}, {sheet(3), sheet(1, 1), nil}, {sheet(3, 1), sheet(3, 2), nil}, {sheet(3, 1), sheet(0, 0, 24, 8), at(3, 2)},
		{sheet(9), sheet(9), at(0, 0, 3, 0)}, {sheet(9), sheet(0, 18), at(1, 1, 4, 1)}, {sheet(0, 18), sheet(9), at(2, 5, 5, 5)}, {sheet(9), sheet(1, 0, 0, 1), nil}, {sheet(21), sheet(42), at(1, 0, 3, 0, 5, 0)},
		{sheet(63), sheet(0, 0, 0, 63), at(0, 3, 1, 3, 2, 3, 3, 3, 4, 3, 5, 3)}, {sheet(63), sheet(1, 1, 1, 1, 1, 1), nil}, {sheet(1, 1, 1, 1, 1, 1), sheet(16, 16, 16, 16, 16, 16), at(4, 0, 4, 1, 4, 2, 4, 3, 4, 4, 4, 5)},
		{board, sheet(42, 21, 42, 21, 42, 21), at(0, 1, 0, 3, 0, 5, 1, 0, 1, 2, 1, 4, 2, 1, 2, 3, 2, 5, 3, 0, 3, 2, 3, 4, 4, 1, 4, 3, 4, 5, 5, 0, 5, 2, 5, 4)}, {board, sheet(21, 21, 21, 21, 21, 21), nil},
		{sheet(1, 2, 4, 8, 16, 32), sheet(2, 4, 8, 16, 32, 1), at(0, 5, 1, 0, 2, 1, 3, 2, 4, 3, 5, 4)}, {sheet(1, 2, 4, 8, 16, 32), sheet(1, 32, 16, 8, 4, 2), nil},
	})
}

func TestShiftsToASheetOfItsClassAreAsManyAsItsPeriods(t *testing.T) {
	for _, s := range sheetsWithPeriods() {
		periods, _ := impl.PeriodsOf(s)
		for _, vector := range everyVector() {
			to := shiftedTo(s, vector)
			shifts, one := impl.ShiftsTo(s, to)
			back, two := impl.ShiftsTo(to, s)
			if !one || !two || len(shifts) != len(periods) || len(back) != len(periods) || !slices.Contains(shifts, vector) || !slices.Equal(shifts, shiftsFrom(s, to)) {
				t.Fatalf("ShiftsTo(%v, %v) = %v, %v, and back %v, %v, not %v", s, to, shifts, one, back, two, shiftsFrom(s, to))
			}
			for _, shift := range shifts {
				if !slices.Contains(back, opposite(shift)) {
					t.Fatalf("ShiftsTo(%v, %v) = %v, and back %v", s, to, shifts, back)
				}
			}
		}
	}
}

func TestShiftsToSheetsOfOtherClasses(t *testing.T) {
	sheets := sheetsWithPeriods()
	other := 0
	for i, a := range sheets {
		for _, b := range []impl.Sheet{sheets[(i+1)%len(sheets)], sheets[(i*7+3)%len(sheets)], differ(a, unit), reflected(a), gridOf(a).mirror().sheet()} {
			want := shiftsFrom(a, b)
			if got, ok := impl.ShiftsTo(a, b); !ok || !slices.Equal(got, want) {
				t.Fatalf("ShiftsTo(%v, %v) = %v, %v, not %v", a, b, got, ok, want)
			}
			if len(want) == 0 {
				other++
			}
		}
	}
	if other < 500 {
		t.Errorf("just %d pairs of the test are of two classes", other)
	}
}

func TestCountShifts(t *testing.T) {
	for _, c := range []struct {
		s    impl.Sheet
		want int
	}{
		{white, 1}, {full, 1}, {unit, 36}, {holed, 36}, {uneven, 36}, {sheet(63), 6}, {sheet(1, 1, 1, 1, 1, 1), 6}, {sheet(21, 42, 21, 42, 21, 42), 2}, {sheet(1, 2, 4, 8, 16, 32), 6},
		{sheet(1, 4, 16, 1, 4, 16), 6}, {sheet(9), 18}, {sheet(21), 12}, {sheet(9, 0, 0, 9), 9}, {sheet(1, 0, 0, 8), 18}, {sheet(21, 0, 21, 0, 21), 4}, {sheet(63, 0, 63, 0, 63), 2}, {sheet(9, 18, 36, 9, 18, 36), 3},
	} {
		if n, ok := impl.CountShifts(c.s); !ok || n != c.want {
			t.Errorf("CountShifts(%v) = %d, %v, not %d", c.s, n, ok, c.want)
		}
	}
	for _, s := range sheetsWithPeriods() {
		periods, _ := impl.PeriodsOf(s)
		n, ok := impl.CountShifts(s)
		if !ok || n != len(classOf(s)) || n*len(periods) != 36 {
			t.Fatalf("CountShifts(%v) = %d, %v, not %d, with %d periods", s, n, ok, len(classOf(s)), len(periods))
		}
	}
}

func TestLeastTile(t *testing.T) {
	for _, c := range []struct {
		s    impl.Sheet
		want [2]int
	}{
		{white, [2]int{1, 1}}, {full, [2]int{1, 1}}, {unit, [2]int{6, 6}}, {holed, [2]int{6, 6}}, {uneven, [2]int{6, 6}}, {sheet(63), [2]int{1, 6}}, {sheet(0, 63, 0, 0, 63), [2]int{1, 3}}, {sheet(63, 0, 63, 0, 63), [2]int{1, 2}},
		{sheet(1, 1, 1, 1, 1, 1), [2]int{6, 1}}, {sheet(9, 9, 9, 9, 9, 9), [2]int{3, 1}}, {sheet(42, 42, 42, 42, 42, 42), [2]int{2, 1}}, {sheet(21, 42, 21, 42, 21, 42), [2]int{2, 2}}, {sheet(9), [2]int{3, 6}}, {sheet(21), [2]int{2, 6}},
		{sheet(1, 2, 4, 8, 16, 32), [2]int{6, 6}}, {sheet(1, 4, 16, 1, 4, 16), [2]int{6, 3}}, {sheet(1, 8, 1, 8, 1, 8), [2]int{6, 2}}, {sheet(9, 18, 36, 9, 18, 36), [2]int{3, 3}}, {sheet(1, 0, 0, 8), [2]int{6, 6}},
		{sheet(9, 0, 0, 9), [2]int{3, 3}}, {sheet(9, 0, 9, 0, 9), [2]int{3, 2}}, {sheet(21, 0, 0, 21), [2]int{2, 3}}, {sheet(1, 0, 0, 1), [2]int{6, 3}}, {sheet(1, 0, 1, 0, 1), [2]int{6, 2}},
	} {
		if tile, ok := impl.LeastTile(c.s); !ok || tile != c.want {
			t.Errorf("LeastTile(%v) = %v, %v, not %v", c.s, tile, ok, c.want)
		}
	}
	tiles := map[[2]int]int{}
	for _, s := range sheetsWithPeriods() {
		tile, ok := impl.LeastTile(s)
		if !ok || !isTileBy(s, tile[0], tile[1]) {
			t.Fatalf("LeastTile(%v) = %v, %v", s, tile, ok)
		}
		for _, w := range sidesOfTiles {
			for _, h := range sidesOfTiles {
				if isTileBy(s, w, h) && (w < tile[0] || h < tile[1]) {
					t.Fatalf("LeastTile(%v) = %v, and %d, %d is one, too", s, tile, w, h)
				}
			}
		}
		tiles[tile]++
	}
	for _, w := range sidesOfTiles {
		for _, h := range sidesOfTiles {
			if tiles[[2]int{w, h}] < 3 {
				t.Errorf("just %d sheets of the test have %d, %d as their least tile", tiles[[2]int{w, h}], w, h)
			}
		}
	}
}

func TestIsTileOf(t *testing.T) {
	for _, c := range []struct {
		s    impl.Sheet
		w, h int
		want bool
	}{
		{white, 1, 1, true}, {full, 1, 1, true}, {white, 6, 2, true}, {unit, 6, 6, true}, {unit, 3, 6, false}, {unit, 6, 3, false}, {holed, 6, 6, true}, {holed, 1, 6, false},
		{sheet(63), 1, 6, true}, {sheet(63), 1, 3, false}, {sheet(1, 1, 1, 1, 1, 1), 6, 1, true}, {sheet(1, 1, 1, 1, 1, 1), 3, 1, false}, {sheet(9), 3, 6, true}, {sheet(9), 2, 6, false}, {sheet(21), 2, 6, true}, {sheet(21), 3, 6, false},
		{sheet(21, 42, 21, 42, 21, 42), 2, 2, true}, {sheet(21, 42, 21, 42, 21, 42), 1, 1, false}, {sheet(21, 42, 21, 42, 21, 42), 3, 2, false}, {sheet(21, 42, 21, 42, 21, 42), 2, 3, false}, {sheet(21, 42, 21, 42, 21, 42), 6, 2, true},
		{sheet(1, 0, 0, 8), 3, 3, false}, {sheet(1, 0, 0, 8), 6, 6, true}, {sheet(9, 0, 0, 9), 3, 3, true}, {sheet(9, 0, 0, 9), 2, 3, false},
	} {
		if is, ok := impl.IsTileOf(c.s, c.w, c.h); !ok || is != c.want {
			t.Errorf("IsTileOf(%v, %d, %d) = %v, %v", c.s, c.w, c.h, is, ok)
		}
	}
	both := map[[2]int]map[bool]int{}
	for _, s := range sheetsWithPeriods() {
		periods, _ := impl.PeriodsOf(s)
		for _, w := range sidesOfTiles {
			for _, h := range sidesOfTiles {
				is, ok := impl.IsTileOf(s, w, h)
				kept := slices.Contains(periods, [2]int{w % 6, 0}) && slices.Contains(periods, [2]int{0, h % 6})
				if !ok || is != isTileBy(s, w, h) || is != kept {
					t.Fatalf("IsTileOf(%v, %d, %d) = %v, %v, with the periods %v", s, w, h, is, ok, periods)
				}
				if both[[2]int{w, h}] == nil {
					both[[2]int{w, h}] = map[bool]int{}
				}
				both[[2]int{w, h}][is]++
			}
		}
	}
	for tile, many := range both {
		if many[true] < 10 || many[false] < 10 && tile != [2]int{6, 6} {
			t.Errorf("%v is a tile of %d sheets of the test, and not of %d", tile, many[true], many[false])
		}
	}
}

func TestFromTile(t *testing.T) {
	for _, c := range []struct {
		rows []int
		w    int
		want impl.Sheet
	}{
		{[]int{0}, 1, white}, {[]int{1}, 1, full}, {[]int{0, 1}, 1, sheet(0, 63, 0, 63, 0, 63)}, {[]int{1, 0, 0}, 1, sheet(63, 0, 0, 63)}, {[]int{1, 0, 0, 1, 1, 0}, 1, sheet(63, 0, 0, 63, 63)},
		{[]int{3}, 2, full}, {[]int{1}, 2, sheet(21, 21, 21, 21, 21, 21)}, {[]int{1, 2}, 2, sheet(21, 42, 21, 42, 21, 42)}, {[]int{3, 0, 2}, 2, sheet(63, 0, 42, 63, 0, 42)}, {[]int{0, 1, 2, 3, 0, 0}, 2, sheet(0, 21, 42, 63)},
		{[]int{7}, 3, full}, {[]int{1}, 3, sheet(9, 9, 9, 9, 9, 9)}, {[]int{6, 7}, 3, sheet(54, 63, 54, 63, 54, 63)}, {[]int{1, 2, 4}, 3, sheet(9, 18, 36, 9, 18, 36)}, {[]int{7, 0, 0, 0, 0, 5}, 3, sheet(63, 0, 0, 0, 0, 45)},
		{[]int{63}, 6, full}, {[]int{1}, 6, sheet(1, 1, 1, 1, 1, 1)}, {[]int{11, 63}, 6, sheet(11, 63, 11, 63, 11, 63)}, {[]int{32, 0, 63}, 6, sheet(32, 0, 63, 32, 0, 63)}, {[]int{63, 1, 2, 3, 4, 62}, 6, sheet(63, 1, 2, 3, 4, 62)},
	} {
		if s, ok := impl.FromTile(c.rows, c.w); !ok || s != c.want {
			t.Errorf("FromTile(%v, %d) = %v, %v, not %v", c.rows, c.w, s, ok, c.want)
		}
	}
}

func TestFromTileHasTheTile(t *testing.T) {
	for _, w := range sidesOfTiles {
		for _, h := range sidesOfTiles {
			for _, rows := range someTiles(w, h) {
				s, one := impl.FromTile(rows, w)
				is, two := impl.IsTileOf(s, w, h)
				least, three := impl.LeastTile(s)
				if !one || !two || !three || s != tiledBy(rows, w) || !is || w%least[0] != 0 || h%least[1] != 0 {
					t.Fatalf("FromTile(%v, %d) = %v, %v, not %v; LeastTile %v, IsTileOf %v", rows, w, s, one, tiledBy(rows, w), least, is)
				}
			}
		}
	}
	for _, s := range sheetsWithPeriods() {
		for _, w := range sidesOfTiles {
			for _, h := range sidesOfTiles {
				rows := slices.Clone(s.Rows[:h])
				for y := range rows {
					rows[y] %= 1 << w
				}
				back, one := impl.FromTile(rows, w)
				is, two := impl.IsTileOf(s, w, h)
				if !one || !two || is != (back == s) {
					t.Fatalf("FromTile(%v, %d) = %v, %v, and %d, %d is a tile of %v: %v", rows, w, back, one, w, h, s, is)
				}
			}
		}
	}
}

func TestFromTileOfOtherRowsFails(t *testing.T) {
	for _, w := range append([]int{0, -1, -2, -3, -6, 4, 5, 7, 8, 12, 18, 36, 62, 63, 64, 1 << 32, math.MaxInt, math.MinInt, math.MinInt + 1}, sidesOfTiles...) {
		for _, n := range []int{0, 1, 2, 3, 4, 5, 6, 7, 8, 9, 12, 36, 1000} {
			s, ok := impl.FromTile(make([]int, n), w)
			if slices.Contains(sidesOfTiles, w) && slices.Contains(sidesOfTiles, n) {
				if !ok || s != white {
					t.Errorf("FromTile of %d rows and %d = %v, %v", n, w, s, ok)
				}
				continue
			}
			checkNoSheet(t, "FromTile", s, ok)
		}
	}
	for _, w := range sidesOfTiles {
		most := 1<<w - 1
		for _, h := range sidesOfTiles {
			for y := range h {
				for _, row := range []int{-1, -2, -64, most + 1, most + 2, 64, 1 << 32, math.MaxInt, math.MinInt, math.MinInt + 1} {
					for _, others := range []int{0, most, row} {
						rows := slices.Repeat([]int{others}, h)
						rows[y] = row
						s, ok := impl.FromTile(rows, w)
						checkNoSheet(t, "FromTile", s, ok)
					}
				}
			}
		}
	}
	s, ok := impl.FromTile(nil, 6)
	checkNoSheet(t, "FromTile", s, ok)
}

func TestSlantsOf(t *testing.T) {
	every := []int{0, 1, 2, 3, 4, 5}
	for _, c := range []struct {
		s    impl.Sheet
		want []int
	}{
		{white, every}, {full, every}, {unit, nil}, {holed, nil}, {uneven, nil}, {sheet(63), nil}, {sheet(63, 0, 63, 0, 63), nil}, {sheet(1, 1, 1, 1, 1, 1), []int{0}}, {sheet(11, 11, 11, 11, 11, 11), []int{0}},
		{sheet(1, 2, 4, 8, 16, 32), []int{1}}, {sheet(2, 4, 8, 16, 32, 1), []int{1}}, {sheet(1, 4, 16, 1, 4, 16), []int{2}}, {sheet(1, 8, 1, 8, 1, 8), []int{3}}, {sheet(1, 16, 4, 1, 16, 4), []int{4}}, {sheet(1, 32, 16, 8, 4, 2), []int{5}},
		{sheet(21, 42, 21, 42, 21, 42), []int{1, 3, 5}}, {sheet(21, 21, 21, 21, 21, 21), []int{0, 2, 4}}, {sheet(9, 9, 9, 9, 9, 9), []int{0, 3}}, {sheet(9, 18, 36, 9, 18, 36), []int{1, 4}}, {sheet(9, 36, 18, 9, 36, 18), []int{2, 5}},
		{sheet(1, 2, 4, 8, 16), nil}, {sheet(1, 2, 4, 8, 16, 1), nil}, {sheet(0, 2, 4, 8, 16, 32), nil}, {sheet(1, 2, 4, 9, 16, 32), nil},
	} {
		if got, ok := impl.SlantsOf(c.s); !ok || !slices.Equal(got, c.want) {
			t.Errorf("SlantsOf(%v) = %v, %v, not %v", c.s, got, ok, c.want)
		}
	}
	many := map[int]int{}
	for _, s := range sheetsWithPeriods() {
		periods, _ := impl.PeriodsOf(s)
		want := slantsBy(s)
		got, ok := impl.SlantsOf(s)
		if !ok || !slices.Equal(got, want) {
			t.Fatalf("SlantsOf(%v) = %v, %v, not %v", s, got, ok, want)
		}
		for dx := range 6 {
			if slices.Contains(got, dx) != slices.Contains(periods, [2]int{dx, 1}) {
				t.Fatalf("SlantsOf(%v) = %v, and its periods are %v", s, got, periods)
			}
		}
		many[len(got)]++
	}
	for _, n := range []int{0, 1, 2, 3, 6} {
		if many[n] < 4 {
			t.Errorf("just %d sheets of the test have %d slants", many[n], n)
		}
	}
}

func TestSlantSheet(t *testing.T) {
	for _, c := range []struct {
		row, dx int
		want    impl.Sheet
	}{
		{0, 0, white}, {0, 5, white}, {63, 0, full}, {63, 4, full}, {1, 0, sheet(1, 1, 1, 1, 1, 1)}, {1, 1, sheet(1, 2, 4, 8, 16, 32)}, {1, 2, sheet(1, 4, 16, 1, 4, 16)}, {1, 3, sheet(1, 8, 1, 8, 1, 8)},
		{1, 4, sheet(1, 16, 4, 1, 16, 4)}, {1, 5, sheet(1, 32, 16, 8, 4, 2)}, {32, 1, sheet(32, 1, 2, 4, 8, 16)}, {21, 1, sheet(21, 42, 21, 42, 21, 42)}, {33, 1, sheet(33, 3, 6, 12, 24, 48)}, {11, 5, sheet(11, 37, 50, 25, 44, 22)},
	} {
		if s, ok := impl.SlantSheet(c.row, c.dx); !ok || s != c.want {
			t.Errorf("SlantSheet(%d, %d) = %v, %v, not %v", c.row, c.dx, s, ok, c.want)
		}
	}
	for row := range 64 {
		for dx := range 6 {
			s, one := impl.SlantSheet(row, dx)
			slants, two := impl.SlantsOf(s)
			if !one || !two || s != slantedBy(row, dx) || s.Rows[0] != row || !slices.Contains(slants, dx) {
				t.Fatalf("SlantSheet(%d, %d) = %v, %v, not %v, with the slants %v", row, dx, s, one, slantedBy(row, dx), slants)
			}
		}
	}
	bad := []int{-1, -2, -6, -63, -64, 64, 65, 127, 128, 1 << 32, 1<<32 + 1, math.MaxInt, math.MinInt, math.MinInt + 1}
	for _, row := range append(bad, 0, 1, 63) {
		for _, dx := range append(bad, 6, 7, 12, 0, 1, 5) {
			if row >= 0 && row < 64 && dx >= 0 && dx < 6 {
				continue
			}
			s, ok := impl.SlantSheet(row, dx)
			checkNoSheet(t, "SlantSheet", s, ok)
		}
	}
}

// filled gives meetings that are alike at all vectors.
func filled(n int) [6][6]int {
	var meetings [6][6]int
	for _, vector := range everyVector() {
		meetings[vector[0]][vector[1]] = n
	}
	return meetings
}

func TestMeetingsOf(t *testing.T) {
	others := filled(34)
	others[0][0] = 35
	for _, c := range []struct {
		s    impl.Sheet
		want [6][6]int
	}{
		{white, [6][6]int{}}, {full, filled(36)}, {unit, [6][6]int{{1}}}, {sheet(0, 0, 0, 4), [6][6]int{{1}}}, {holed, others},
		{sheet(3), [6][6]int{{2}, {1}, {}, {}, {}, {1}}}, {sheet(1, 1), [6][6]int{{2, 1, 0, 0, 0, 1}}}, {sheet(5), [6][6]int{{2}, {}, {1}, {}, {1}}}, {sheet(9), [6][6]int{{2}, {}, {}, {2}}}, {sheet(1, 0, 0, 1), [6][6]int{{2, 0, 0, 2}}},
		{sheet(3, 1), [6][6]int{{3, 1, 0, 0, 0, 1}, {1, 0, 0, 0, 0, 1}, {}, {}, {}, {1, 1}}}, {sheet(1, 2), [6][6]int{{2}, {0, 1}, {}, {}, {}, {0, 0, 0, 0, 0, 1}}}, {sheet(2, 1), [6][6]int{{2}, {0, 0, 0, 0, 0, 1}, {}, {}, {}, {0, 1}}},
		{sheet(63), [6][6]int{{6}, {6}, {6}, {6}, {6}, {6}}}, {sheet(1, 1, 1, 1, 1, 1), [6][6]int{{6, 6, 6, 6, 6, 6}}}, {sheet(1, 2, 4, 8, 16, 32), [6][6]int{{6}, {0, 6}, {0, 0, 6}, {0, 0, 0, 6}, {0, 0, 0, 0, 6}, {0, 0, 0, 0, 0, 6}}},
		{sheet(21, 42, 21, 42, 21, 42), [6][6]int{{18, 0, 18, 0, 18, 0}, {0, 18, 0, 18, 0, 18}, {18, 0, 18, 0, 18, 0}, {0, 18, 0, 18, 0, 18}, {18, 0, 18, 0, 18, 0}, {0, 18, 0, 18, 0, 18}}},
		{sheet(31), [6][6]int{{5}, {4}, {4}, {4}, {4}, {4}}},
	} {
		if got, ok := impl.MeetingsOf(c.s); !ok || got != c.want {
			t.Errorf("MeetingsOf(%v) = %v, %v, not %v", c.s, got, ok, c.want)
		}
	}
}

func TestMeetingsAreTheSizeAtPeriodsAndItsSquareTogether(t *testing.T) {
	for _, s := range sheetsWithPeriods() {
		meetings, ok := impl.MeetingsOf(s)
		if !ok || meetings != meetingsBy(s) {
			t.Fatalf("MeetingsOf(%v) = %v, %v, not %v", s, meetings, ok, meetingsBy(s))
		}
		periods, _ := impl.PeriodsOf(s)
		sum := 0
		for _, vector := range everyVector() {
			n := meetings[vector[0]][vector[1]]
			back := opposite(vector)
			both, _ := impl.BothOf(s, shiftedTo(s, vector))
			if n != sizeOf(both) || n != meetings[back[0]][back[1]] || (n == sizeOf(s)) != slices.Contains(periods, vector) {
				t.Fatalf("MeetingsOf(%v) = %v, with %d at %v", s, meetings, n, vector)
			}
			sum += n
		}
		if sum != sizeOf(s)*sizeOf(s) {
			t.Fatalf("all meetings of %v are %d", s, sum)
		}
	}
}

func TestMeetAlike(t *testing.T) {
	for _, c := range []struct {
		a, b impl.Sheet
		want bool
	}{
		{white, white, true}, {full, full, true}, {white, full, false}, {white, unit, false}, {full, holed, false}, {unit, sheet(0, 0, 0, 4), true}, {holed, sheet(63, 63, 63, 63, 63, 31), true}, {unit, sheet(3), false},
		{sheet(3), sheet(33), true}, {sheet(3), sheet(5), false}, {sheet(3), sheet(1, 1), false}, {sheet(1, 2), sheet(2, 1), false}, {sheet(3, 1), sheet(2, 3), true}, {sheet(3, 1), sheet(3, 2), false}, {sheet(11), sheet(13), true},
		{sheet(63), sheet(0, 63), true}, {sheet(63), sheet(1, 1, 1, 1, 1, 1), false}, {sheet(21, 42, 21, 42, 21, 42), sheet(42, 21, 42, 21, 42, 21), true}, {sheet(21, 42, 21, 42, 21, 42), sheet(21, 21, 21, 21, 21, 21), false},
	} {
		if is, ok := impl.MeetAlike(c.a, c.b); !ok || is != c.want {
			t.Errorf("MeetAlike(%v, %v) = %v, %v", c.a, c.b, is, ok)
		}
	}
	both := map[bool]int{}
	sheets := sheetsWithPeriods()
	for i, a := range sheets {
		for _, b := range append(classOf(a), reflected(a)) {
			if is, ok := impl.MeetAlike(a, b); !ok || !is {
				t.Fatalf("MeetAlike(%v, %v) = %v, %v", a, b, is, ok)
			}
		}
		for _, b := range []impl.Sheet{sheets[(i+1)%len(sheets)], sheets[(i*5+2)%len(sheets)], gridOf(a).mirror().sheet(), gridOf(a).quarter().sheet(), differ(a, unit)} {
			is, ok := impl.MeetAlike(a, b)
			if !ok || is != (meetingsBy(a) == meetingsBy(b)) {
				t.Fatalf("MeetAlike(%v, %v) = %v, %v", a, b, is, ok)
			}
			both[is]++
		}
	}
	if both[true] < 100 || both[false] < 500 {
		t.Errorf("MeetAlike is true for %d pairs of sheets and false for %d", both[true], both[false])
	}
}

func TestOrderOf(t *testing.T) {
	for _, c := range []struct {
		vector [2]int
		want   int
	}{
		{[2]int{0, 0}, 1}, {[2]int{3, 0}, 2}, {[2]int{0, 3}, 2}, {[2]int{3, 3}, 2}, {[2]int{2, 0}, 3}, {[2]int{4, 0}, 3}, {[2]int{0, 2}, 3}, {[2]int{0, 4}, 3}, {[2]int{2, 4}, 3}, {[2]int{4, 4}, 3},
		{[2]int{2, 3}, 6}, {[2]int{3, 4}, 6}, {[2]int{1, 0}, 6}, {[2]int{0, 5}, 6}, {[2]int{5, 5}, 6}, {[2]int{1, 3}, 6}, {[2]int{2, 5}, 6},
	} {
		if n, ok := impl.OrderOf(c.vector); !ok || n != c.want {
			t.Errorf("OrderOf(%v) = %d, %v, not %d", c.vector, n, ok, c.want)
		}
	}
	many := map[int]int{}
	for _, vector := range everyVector() {
		n, ok := impl.OrderOf(vector)
		if !ok || n != orderBy(vector) {
			t.Fatalf("OrderOf(%v) = %d, %v, not %d", vector, n, ok, orderBy(vector))
		}
		many[n]++
		s := unit
		for times := 1; times <= n; times++ {
			s, _ = impl.ShiftSheet(s, vector[0], vector[1])
			if (s == unit) != (times == n) {
				t.Fatalf("OrderOf(%v) = %d, and %d shifts make %v", vector, n, times, s)
			}
		}
	}
	if many[1] != 1 || many[2] != 3 || many[3] != 8 || many[6] != 24 {
		t.Error("orders of vectors", many)
	}
}

func maskShifted(mask uint64, vector [2]int) uint64 {
	var to uint64
	for ; mask != 0; mask &= mask - 1 {
		i := bits.TrailingZeros64(mask)
		to |= 1 << ((i/6+vector[1])%6*6 + (i%6+vector[0])%6)
	}
	return to
}

// masksOfSize gives those of all sheets of a size.
func masksOfSize(size int) []uint64 {
	var masks []uint64
	var choose func(mask uint64, from, left int)
	choose = func(mask uint64, from, left int) {
		if left == 0 {
			masks = append(masks, mask)
			return
		}
		for i := from; i < 36; i++ {
			choose(mask|1<<i, i+1, left-1)
		}
	}
	choose(0, 0, size)
	return masks
}

const allDigits = 1<<36 - 1

func sheetOfMask(mask uint64) impl.Sheet {
	var s impl.Sheet
	for y := range s.Rows {
		s.Rows[y] = int(mask >> (6 * y) & 63)
	}
	return s
}

func checkKept(t *testing.T, vector [2]int, size, want int) {
	t.Helper()
	if n, ok := impl.CountKept(vector, size); !ok || n != want {
		t.Errorf("CountKept(%v, %d) = %d, %v, not %d", vector, size, n, ok, want)
	}
}

func TestCountKept(t *testing.T) {
	for _, c := range []struct {
		vector     [2]int
		size, want int
	}{
		{[2]int{0, 0}, 0, 1}, {[2]int{0, 0}, 1, 36}, {[2]int{0, 0}, 2, 630}, {[2]int{0, 0}, 18, 9075135300}, {[2]int{0, 0}, 35, 36}, {[2]int{0, 0}, 36, 1},
		{[2]int{3, 0}, 0, 1}, {[2]int{3, 0}, 1, 0}, {[2]int{3, 0}, 2, 18}, {[2]int{0, 3}, 18, 48620}, {[2]int{3, 3}, 19, 0}, {[2]int{3, 3}, 34, 18}, {[2]int{3, 0}, 36, 1},
		{[2]int{2, 0}, 2, 0}, {[2]int{2, 4}, 3, 12}, {[2]int{0, 4}, 18, 924}, {[2]int{4, 4}, 35, 0}, {[2]int{4, 2}, 36, 1},
		{[2]int{2, 3}, 6, 6}, {[2]int{1, 0}, 18, 20}, {[2]int{1, 1}, 3, 0}, {[2]int{5, 2}, 12, 15}, {[2]int{0, 1}, 36, 1}, {[2]int{5, 5}, 0, 1}, {[2]int{0, 5}, 35, 0},
	} {
		checkKept(t, c.vector, c.size, c.want)
	}
}

func TestKeptSheetsAreThoseOfADirectTrial(t *testing.T) {
	for size := range 5 {
		kept, others := map[[2]int]int{}, map[[2]int]int{}
		for _, mask := range masksOfSize(size) {
			for _, vector := range everyVector() {
				if maskShifted(mask, vector) == mask {
					kept[vector]++
				}
				if maskShifted(allDigits&^mask, vector) == allDigits&^mask {
					others[vector]++
				}
			}
		}
		for _, vector := range everyVector() {
			checkKept(t, vector, size, kept[vector])
			checkKept(t, vector, 36-size, others[vector])
		}
	}
}

func TestKeptSheetsHaveTheVectorAsAPeriod(t *testing.T) {
	for size := range 4 {
		kept := map[[2]int]int{}
		for _, mask := range masksOfSize(size) {
			periods, ok := impl.PeriodsOf(sheetOfMask(mask))
			if !ok {
				t.Fatalf("PeriodsOf(%v) fails", sheetOfMask(mask))
			}
			for _, vector := range periods {
				kept[vector]++
			}
		}
		for _, vector := range everyVector() {
			checkKept(t, vector, size, kept[vector])
		}
	}
}

// loopsOf gives the sets of cells through which a vector leads from each cell back to it.
func loopsOf(vector [2]int) []uint64 {
	var loops []uint64
	var seen uint64
	for i := range 36 {
		var loop uint64
		for mask := uint64(1) << i; seen&mask == 0; mask = maskShifted(mask, vector) {
			seen |= mask
			loop |= mask
		}
		if loop != 0 {
			loops = append(loops, loop)
		}
	}
	return loops
}

// A sheet that a vector keeps has all cells of a loop, or none: all choices of loops are tried, but those of 0, 0, which are added up.
func TestKeptSheetsOfEachSize(t *testing.T) {
	for _, vector := range everyVector() {
		loops := loopsOf(vector)
		order, _ := impl.OrderOf(vector)
		if len(loops)*order != 36 {
			t.Fatalf("%v leads through %d loops, and has the order %d", vector, len(loops), order)
		}
		var counts [37]int
		if len(loops) == 36 {
			counts = rowOfPascal()
		} else {
			for chosen := range 1 << len(loops) {
				size := 0
				for left := uint(chosen); left != 0; left &= left - 1 {
					size += bits.OnesCount64(loops[bits.TrailingZeros(left)])
				}
				counts[size]++
			}
		}
		for size, want := range counts {
			checkKept(t, vector, size, want)
		}
	}
}

// rowOfPascal gives the numbers of ways to choose some of 36 cells.
func rowOfPascal() [37]int {
	row := [37]int{1}
	for range 36 {
		for i := 36; i > 0; i-- {
			row[i] += row[i-1]
		}
	}
	return row
}

func TestCountClasses(t *testing.T) {
	for _, c := range []struct{ size, want int }{
		{0, 1}, {1, 1}, {2, 19}, {3, 201}, {4, 1649}, {6, 54192}, {18, 252091362}, {30, 54192}, {32, 1649}, {33, 201}, {34, 19}, {35, 1}, {36, 1},
	} {
		if n, ok := impl.CountClasses(c.size); !ok || n != c.want {
			t.Errorf("CountClasses(%d) = %d, %v, not %d", c.size, n, ok, c.want)
		}
	}
	all := 0
	for size := range 37 {
		n, one := impl.CountClasses(size)
		other, two := impl.CountClasses(36 - size)
		sum := 0
		for _, vector := range everyVector() {
			kept, _ := impl.CountKept(vector, size)
			sum += kept
		}
		if !one || !two || n != other || n*36 != sum {
			t.Errorf("CountClasses(%d) = %d, %v, and of %d %d, %v, with %d kept", size, n, one, 36-size, other, two, sum)
		}
		all += n
	}
	// The number of black and white boards of six rows of six cells, up to shifts, known from elsewhere.
	if all != 1908897152 {
		t.Error("all classes are", all)
	}
}

func TestClassesAreThoseOfADirectTrial(t *testing.T) {
	for size := range 5 {
		seen := map[uint64]bool{}
		classes := 0
		for _, mask := range masksOfSize(size) {
			if seen[mask] {
				continue
			}
			classes++
			for _, vector := range everyVector() {
				seen[maskShifted(mask, vector)] = true
			}
		}
		for _, same := range []int{size, 36 - size} {
			if n, ok := impl.CountClasses(same); !ok || n != classes {
				t.Errorf("CountClasses(%d) = %d, %v, not %d", same, n, ok, classes)
			}
		}
	}
}

// Sheets of a size are those of all classes, each of which has as many as one of its sheets has shifts.
func TestClassesHaveAllSheets(t *testing.T) {
	for size := range 4 {
		firsts, sheets := 0, 0
		for _, mask := range masksOfSize(size) {
			s := sheetOfMask(mask)
			if first, ok := impl.FirstPlace(s); ok && first == s {
				n, _ := impl.CountShifts(s)
				firsts++
				sheets += n
			}
		}
		all, one := impl.CountKept([2]int{0, 0}, size)
		classes, two := impl.CountClasses(size)
		if !one || !two || all != sheets || classes != firsts {
			t.Errorf("%d classes have %d sheets of the size %d, and not %d with %d", classes, all, size, firsts, sheets)
		}
	}
}

func badSizes() []int {
	return []int{-1, -2, -18, -36, 37, 38, 72, 1 << 32, math.MaxInt, math.MaxInt - 1, math.MinInt, math.MinInt + 1}
}

func TestInvalidVectorsAndSizesFail(t *testing.T) {
	for _, bad := range badCells() {
		if n, ok := impl.OrderOf(bad); ok || n != 0 {
			t.Errorf("OrderOf(%v) = %d, %v", bad, n, ok)
		}
		for _, size := range append(badSizes(), 0, 1, 2, 6, 18, 35, 36) {
			if n, ok := impl.CountKept(bad, size); ok || n != 0 {
				t.Errorf("CountKept(%v, %d) = %d, %v", bad, size, n, ok)
			}
		}
	}
	for _, size := range badSizes() {
		if n, ok := impl.CountClasses(size); ok || n != 0 {
			t.Errorf("CountClasses(%d) = %d, %v", size, n, ok)
		}
		for _, vector := range everyVector() {
			if n, ok := impl.CountKept(vector, size); ok || n != 0 {
				t.Errorf("CountKept(%v, %d) = %d, %v", vector, size, n, ok)
			}
		}
	}
}

func TestInvalidSheetsHaveNoPeriods(t *testing.T) {
	for _, bad := range badSheets() {
		if periods, ok := impl.PeriodsOf(bad); ok || len(periods) != 0 {
			t.Errorf("PeriodsOf(%v) = %v, %v", bad, periods, ok)
		}
		if n, ok := impl.CountShifts(bad); ok || n != 0 {
			t.Errorf("CountShifts(%v) = %d, %v", bad, n, ok)
		}
		if tile, ok := impl.LeastTile(bad); ok || tile != [2]int{} {
			t.Errorf("LeastTile(%v) = %v, %v", bad, tile, ok)
		}
		if slants, ok := impl.SlantsOf(bad); ok || len(slants) != 0 {
			t.Errorf("SlantsOf(%v) = %v, %v", bad, slants, ok)
		}
		if meetings, ok := impl.MeetingsOf(bad); ok || meetings != [6][6]int{} {
			t.Errorf("MeetingsOf(%v) = %v, %v", bad, meetings, ok)
		}
		for _, other := range []impl.Sheet{white, full, bad, unit, sheet(1, 2, 4, 8, 16, 32)} {
			for _, two := range [][2]impl.Sheet{{bad, other}, {other, bad}} {
				checkNoCells(t, "ShiftsTo", impl.ShiftsTo, two[0], two[1])
				if is, ok := impl.MeetAlike(two[0], two[1]); ok || is {
					t.Errorf("MeetAlike(%v, %v) = %v, %v", two[0], two[1], is, ok)
				}
			}
		}
	}
}

func TestIsTileOfInvalidArgumentsFails(t *testing.T) {
	check := func(s impl.Sheet, w, h int) {
		t.Helper()
		if is, ok := impl.IsTileOf(s, w, h); ok || is {
			t.Errorf("IsTileOf(%v, %d, %d) = %v, %v", s, w, h, is, ok)
		}
	}
	bad := []int{0, -1, -2, -3, -6, 4, 5, 7, 8, 9, 12, 36, 1 << 32, math.MaxInt, math.MinInt, math.MinInt + 1}
	for _, s := range []impl.Sheet{white, full, unit, sheet(21, 42, 21, 42, 21, 42)} {
		for _, n := range bad {
			for _, other := range append(bad, sidesOfTiles...) {
				check(s, n, other)
				check(s, other, n)
			}
		}
	}
	for _, s := range badSheets() {
		for _, w := range append(sidesOfTiles, 4) {
			for _, h := range append(sidesOfTiles, 0) {
				check(s, w, h)
			}
		}
	}
}

func TestFromTileModifiesNoArgument(t *testing.T) {
	backing := []int{1, 0, 3, 2, 1, 63, -1, 2, 64, 5, 0, 1, math.MinInt}
	before := slices.Clone(backing)
	for from := range backing {
		for to := from; to <= len(backing); to++ {
			for w := range 8 {
				impl.FromTile(backing[from:to], w)
				if !slices.Equal(backing, before) {
					t.Fatalf("the rows %v are left as %v", before, backing)
				}
			}
		}
	}
}

func TestPeriodsSameResultsAgain(t *testing.T) {
	board := sheet(21, 42, 21, 42, 21, 42)
	for range 3 {
		periods, one := impl.PeriodsOf(sheet(9))
		shifts, two := impl.ShiftsTo(sheet(9), sheet(18))
		slants, three := impl.SlantsOf(board)
		if !one || !two || !three || !slices.Equal(periods, at(0, 0, 3, 0)) || !slices.Equal(shifts, at(1, 0, 4, 0)) || !slices.Equal(slants, []int{1, 3, 5}) {
			t.Errorf("PeriodsOf %v, ShiftsTo %v, SlantsOf %v", periods, shifts, slants)
		}
		for _, list := range [][][2]int{append(periods, [2]int{9, 9}), append(shifts, [2]int{9, 9}), periods, shifts} {
			for i := range list {
				list[i] = [2]int{-1, 7}
			}
		}
		for i := range slants {
			slants[i] = 9
		}
		rows := []int{1, 2}
		made, four := impl.FromTile(rows, 2)
		rows[0] = 3
		again, five := impl.FromTile([]int{1, 2}, 2)
		if !four || !five || made != board || again != board {
			t.Errorf("FromTile gives %v and then %v", made, again)
		}
		many, six := impl.CountShifts(board)
		tile, seven := impl.LeastTile(board)
		meetings, eight := impl.MeetingsOf(sheet(3))
		kept, nine := impl.CountKept([2]int{3, 0}, 2)
		classes, ten := impl.CountClasses(2)
		if !six || !seven || !eight || !nine || !ten || many != 2 || tile != [2]int{2, 2} || meetings != meetingsBy(sheet(3)) || kept != 18 || classes != 19 {
			t.Errorf("CountShifts %d, LeastTile %v, MeetingsOf %v, CountKept %d, CountClasses %d", many, tile, meetings, kept, classes)
		}
		meetings[0][0] = 99
		impl.PeriodsOf(sheet(-1))
		impl.LeastTile(unit)
	}
}
