package tests

import (
	"math"
	"math/rand"
	"slices"
	"strings"
	"testing"

	"loop.example/g01220/impl"
)

// mark makes a print of a stamp at the cell x, y.
func mark(ink int, stamp impl.Sheet, x, y int) impl.Print {
	return impl.Print{Ink: ink, Stamp: stamp, Cell: [2]int{x, y}}
}

// picture reads rows of digits; cells that are not told are 0.
func picture(rows ...string) impl.Picture {
	var p impl.Picture
	for y, row := range rows {
		for x, digit := range row {
			p.Cells[y][x] = int(digit - '0')
		}
	}
	return p
}

// filledWith has the same number in each cell.
func filledWith(ink int) impl.Picture {
	var p impl.Picture
	for _, cell := range allCells() {
		p.Cells[cell[1]][cell[0]] = ink
	}
	return p
}

// gridsOf gives the cells of each print.
func gridsOf(list []impl.Print) []grid {
	grids := make([]grid, len(list))
	for i, x := range list {
		grids[i] = gridOf(x.Stamp).moved(x.Cell[0], x.Cell[1])
	}
	return grids
}

// madeBy gives each cell the ink of the last print that has it, of those at some places.
func madeBy(list []impl.Print, grids []grid, places []int) impl.Picture {
	var p impl.Picture
	for _, cell := range allCells() {
		for _, i := range slices.Backward(places) {
			if grids[i][cell[1]][cell[0]] {
				p.Cells[cell[1]][cell[0]] = list[i].Ink
				break
			}
		}
	}
	return p
}

func placesBelow(n int) []int {
	places := make([]int, n)
	for i := range places {
		places[i] = i
	}
	return places
}

// madeInOrder gives the picture of all prints of a list, as they come.
func madeInOrder(list []impl.Print) impl.Picture {
	return madeBy(list, gridsOf(list), placesBelow(len(list)))
}

// ordersOf gives all orders of n places, the first one first.
func ordersOf(n int) [][]int {
	var orders [][]int
	var add func(begun []int)
	add = func(begun []int) {
		if len(begun) == n {
			orders = append(orders, begun)
			return
		}
		for i := range n {
			if !slices.Contains(begun, i) {
				add(append(slices.Clone(begun), i))
			}
		}
	}
	add(nil)
	return orders
}

// choicesFrom gives all ascending lists of some of n places, by their length, and then the first one first.
func choicesFrom(n int) [][]int {
	var choices [][]int
	for length := range n + 1 {
		var add func(begun []int, from int)
		add = func(begun []int, from int) {
			if len(begun) == length {
				choices = append(choices, begun)
				return
			}
			for i := from; i < n; i++ {
				add(append(slices.Clone(begun), i), i+1)
			}
		}
		add(nil, 0)
	}
	return choices
}

func rightOrdersBy(p impl.Picture, list []impl.Print) [][]int {
	grids := gridsOf(list)
	var right [][]int
	for _, order := range ordersOf(len(list)) {
		if madeBy(list, grids, order) == p {
			right = append(right, order)
		}
	}
	return right
}

// common gives the number of cells that two grids have in common.
func common(a, b grid) int {
	return len(each(a, b, func(a, b bool) bool { return a && b }).cells())
}

// seenBy gives for each print how many of its cells are those of no later one.
func seenBy(list []impl.Print) []int {
	grids := gridsOf(list)
	seen := make([]int, len(list))
	for i, g := range grids {
		for _, later := range grids[i+1:] {
			g = each(g, later, func(a, b bool) bool { return a && !b })
		}
		seen[i] = len(g.cells())
	}
	return seen
}

func hiddenBy(list []impl.Print) []int {
	var hidden []int
	for i, n := range seenBy(list) {
		if n == 0 {
			hidden = append(hidden, i)
		}
	}
	return hidden
}

func wholeBy(list []impl.Print) []int {
	var whole []int
	for i, n := range seenBy(list) {
		if n == sizeOf(list[i].Stamp) {
			whole = append(whole, i)
		}
	}
	return whole
}

func lastBy(p impl.Picture, list []impl.Print) []int {
	var last []int
prints:
	for i, g := range gridsOf(list) {
		for _, cell := range g.cells() {
			if p.Cells[cell[1]][cell[0]] != list[i].Ink {
				continue prints
			}
		}
		last = append(last, i)
	}
	return last
}

func overlapsBy(list []impl.Print) [][2]int {
	var pairs [][2]int
	grids := gridsOf(list)
	for i := range list {
		for j := range list {
			if i < j && common(grids[i], grids[j]) > 0 {
				pairs = append(pairs, [2]int{i, j})
			}
		}
	}
	return pairs
}

func fewestBy(list []impl.Print) []int {
	grids, p := gridsOf(list), madeInOrder(list)
	for _, places := range choicesFrom(len(list)) {
		if madeBy(list, grids, places) == p {
			return places
		}
	}
	return nil
}

// swappedBy tells whether the picture stays if the prints at i and i + 1 change their places.
func swappedBy(list []impl.Print, i int) bool {
	other := slices.Clone(list)
	other[i], other[i+1] = other[i+1], other[i]
	return madeInOrder(other) == madeInOrder(list)
}

func pictureTextBy(p impl.Picture) string {
	var rows []string
	for _, row := range p.Cells {
		var text []byte
		for _, ink := range row {
			text = append(text, "0123456789"[ink])
		}
		rows = append(rows, string(text))
	}
	return strings.ReplaceAll(strings.Join(rows, "/"), "0", ".")
}

// A series of lists of 0..6 prints, by a fixed series of numbers: of small stamps, of wide ones, of stamps in one row, of one ink, with prints that come again, and with all stamps.
func printLists(n int) [][]impl.Print {
	source := rand.New(rand.NewSource(8))
	wide := []impl.Sheet{full, holed, sheet(63, 63, 63), sheet(15, 15, 15, 15), sheet(7, 7, 7), sheet(63, 33, 33, 33, 33, 63), sheet(21, 42, 21, 42, 21, 42), sheet(31, 31)}
	rows := []impl.Sheet{unit, sheet(3), sheet(5), sheet(7), sheet(9), sheet(21), sheet(31), sheet(63)}
	pools := [][]impl.Sheet{smallStamps(), wide, rows, rows, rows, edgeStamps()}
	var lists [][]impl.Print
	for i := range n {
		kind := i % len(pools)
		list := []impl.Print{}
		for range i / len(pools) % 7 {
			if kind == 4 && len(list) > 0 && source.Intn(2) == 0 {
				list = append(list, list[source.Intn(len(list))])
				continue
			}
			x := mark(1+source.Intn(4), pools[kind][source.Intn(len(pools[kind]))], source.Intn(6), source.Intn(6))
			if kind >= 2 && kind <= 4 {
				x.Cell[1] = 2
			}
			if kind == 3 {
				x.Ink = 3
			}
			list = append(list, x)
		}
		lists = append(lists, list)
	}
	return lists
}

// picturesFor gives the picture of a list, those of other orders of it, the same with one cell changed, and others.
func picturesFor(list []impl.Print) []impl.Picture {
	p := madeInOrder(list)
	back := placesBelow(len(list))
	slices.Reverse(back)
	opposite := madeBy(list, gridsOf(list), back)
	turned := madeBy(list, gridsOf(list), append(back[len(back)/2:], back[:len(back)/2]...))
	changed, more := p, opposite
	changed.Cells[2][3] = (changed.Cells[2][3] + 1) % 5
	more.Cells[5][5] = (more.Cells[5][5] + 2) % 5
	return []impl.Picture{p, opposite, turned, changed, more, {}, filledWith(3)}
}

func TestLimitsOfInks(t *testing.T) {
	if impl.MaxInk != 4 || impl.MaxPrints != 6 {
		t.Error("MaxInk and MaxPrints", impl.MaxInk, impl.MaxPrints)
	}
}

func badInks() []int {
	return []int{-1, -2, -4, 5, 6, 9, 10, 48, 1 << 32, 1<<32 + 1, math.MaxInt, math.MaxInt - 1, math.MinInt, math.MinInt + 1}
}

// badPictures have one cell, or all of them, below 0 or above MaxInk.
func badPictures() []impl.Picture {
	var bad []impl.Picture
	for _, ink := range badInks() {
		for _, cell := range allCells() {
			for _, p := range []impl.Picture{{}, filledWith(4), picture("122", "", "0004", "", "", "000001")} {
				p.Cells[cell[1]][cell[0]] = ink
				bad = append(bad, p)
			}
		}
		bad = append(bad, filledWith(ink))
	}
	return bad
}

// badPrints have an ink, a stamp or a cell that is not valid, or all of them.
func badPrints() []impl.Print {
	var bad []impl.Print
	for _, ink := range append(badInks(), 0) {
		bad = append(bad, mark(ink, unit, 0, 0), mark(ink, white, 5, 5), mark(ink, full, 2, 3))
	}
	for _, stamp := range badSheets() {
		bad = append(bad, mark(1, stamp, 0, 0))
	}
	for _, cell := range badCells() {
		bad = append(bad, mark(4, unit, cell[0], cell[1]), mark(2, white, cell[0], cell[1]))
	}
	return append(bad, impl.Print{}, mark(0, sheet(-1), 6, 6), mark(5, sheet(64), -1, -1))
}

func TestIsPicture(t *testing.T) {
	for _, p := range []impl.Picture{{}, filledWith(1), filledWith(2), filledWith(3), filledWith(4), picture("012340", "432104"), picture("", "", "", "", "", "000004")} {
		if !impl.IsPicture(p) {
			t.Errorf("IsPicture(%v) is false", p)
		}
	}
	for _, cell := range allCells() {
		for ink := -10; ink <= 10; ink++ {
			p := picture("1234", "4321", "0000", "4444")
			p.Cells[cell[1]][cell[0]] = ink
			if impl.IsPicture(p) != (ink >= 0 && ink <= 4) {
				t.Errorf("IsPicture(%v) is wrong", p)
			}
		}
	}
	for _, p := range badPictures() {
		if impl.IsPicture(p) {
			t.Errorf("IsPicture(%v) is true", p)
		}
	}
}

func TestIsPrint(t *testing.T) {
	for ink := -10; ink <= 10; ink++ {
		for _, stamp := range someSheets(4) {
			for _, cell := range allCells() {
				if x := mark(ink, stamp, cell[0], cell[1]); impl.IsPrint(x) != (ink >= 1 && ink <= 4) {
					t.Fatalf("IsPrint(%v) is wrong", x)
				}
			}
		}
	}
	for _, x := range badPrints() {
		if impl.IsPrint(x) {
			t.Errorf("IsPrint(%v) is true", x)
		}
	}
}

func TestPictureOf(t *testing.T) {
	across := []impl.Print{mark(4, full, 0, 0), mark(1, sheet(1), 0, 0), mark(2, sheet(1), 5, 5), mark(3, sheet(63), 4, 2), mark(1, sheet(1, 1, 1, 1, 1, 1), 2, 1), mark(4, sheet(3), 5, 0)}
	for _, c := range []struct {
		list []impl.Print
		want impl.Picture
	}{
		{nil, impl.Picture{}},
		{[]impl.Print{}, impl.Picture{}},
		{[]impl.Print{mark(3, white, 2, 2)}, impl.Picture{}},
		{[]impl.Print{mark(4, full, 3, 1)}, filledWith(4)},
		{[]impl.Print{mark(1, unit, 0, 0)}, picture("1")},
		{[]impl.Print{mark(2, unit, 5, 5)}, picture("", "", "", "", "", "000002")},
		{[]impl.Print{mark(3, sheet(3, 1), 1, 2)}, picture("", "", "033", "03")},
		// Around the edges.
		{[]impl.Print{mark(1, sheet(3), 5, 0)}, picture("100001")},
		{[]impl.Print{mark(2, sheet(1, 1), 0, 5)}, picture("2", "", "", "", "", "2")},
		{[]impl.Print{mark(4, sheet(3, 3), 5, 5)}, picture("400004", "", "", "", "", "400004")},
		{[]impl.Print{mark(1, sheet(0, 0, 0, 0, 0, 32), 1, 1)}, picture("1")},
		// Some that cover all that was there, a part of it, just the middle of it, or nothing.
		{[]impl.Print{mark(1, sheet(3), 0, 0), mark(2, sheet(7), 0, 0)}, picture("222")},
		{[]impl.Print{mark(1, sheet(7), 0, 0), mark(2, sheet(3), 1, 0)}, picture("122")},
		{[]impl.Print{mark(2, sheet(3), 1, 0), mark(1, sheet(7), 0, 0)}, picture("111")},
		{[]impl.Print{mark(1, sheet(7), 0, 0), mark(2, unit, 1, 0)}, picture("121")},
		{[]impl.Print{mark(1, sheet(3), 0, 0), mark(2, sheet(3), 2, 0), mark(3, sheet(3), 4, 4)}, picture("1122", "", "", "", "000033")},
		{[]impl.Print{mark(1, sheet(7), 0, 0), mark(4, white, 0, 0)}, picture("111")},
		// The same print twice, behind itself and behind another one.
		{[]impl.Print{mark(1, sheet(7), 0, 0), mark(1, sheet(7), 0, 0)}, picture("111")},
		{[]impl.Print{mark(1, sheet(7), 0, 0), mark(2, sheet(3), 1, 0), mark(1, sheet(7), 0, 0)}, picture("111")},
		{[]impl.Print{mark(1, sheet(7), 0, 0), mark(2, sheet(7), 0, 0)}, picture("222")},
		{across, picture("441444", "441444", "331333", "441444", "441444", "441442")},
	} {
		if p, ok := impl.PictureOf(c.list); !ok || p != c.want {
			t.Errorf("PictureOf(%v) = %v, %v, not %v", c.list, p, ok, c.want)
		}
	}
	for _, list := range printLists(700) {
		if p, ok := impl.PictureOf(list); !ok || p != madeInOrder(list) || !impl.IsPicture(p) {
			t.Fatalf("PictureOf(%v) = %v, %v, not %v", list, p, ok, madeInOrder(list))
		}
	}
}

func TestInkSheet(t *testing.T) {
	p := picture("012343", "100000", "", "222222", "", "300004")
	for _, c := range []struct {
		p    impl.Picture
		ink  int
		want impl.Sheet
	}{
		{impl.Picture{}, 0, full}, {impl.Picture{}, 1, white}, {impl.Picture{}, 4, white}, {filledWith(4), 4, full}, {filledWith(4), 0, white}, {filledWith(4), 3, white}, {filledWith(1), 1, full},
		{p, 0, sheet(1, 62, 63, 0, 63, 30)}, {p, 1, sheet(2, 1)}, {p, 2, sheet(4, 0, 0, 63)}, {p, 3, sheet(40, 0, 0, 0, 0, 1)}, {p, 4, sheet(16, 0, 0, 0, 0, 32)},
	} {
		if s, ok := impl.InkSheet(c.p, c.ink); !ok || s != c.want {
			t.Errorf("InkSheet(%v, %d) = %v, %v, not %v", c.p, c.ink, s, ok, c.want)
		}
	}
	for _, list := range printLists(300) {
		p := madeInOrder(list)
		for ink := range 5 {
			s, ok := impl.InkSheet(p, ink)
			for _, cell := range allCells() {
				if !ok || gridOf(s)[cell[1]][cell[0]] != (p.Cells[cell[1]][cell[0]] == ink) {
					t.Fatalf("InkSheet(%v, %d) = %v, %v", p, ink, s, ok)
				}
			}
		}
	}
}

func TestInkSheetOfOtherInksFails(t *testing.T) {
	for _, ink := range badInks() {
		for _, p := range []impl.Picture{{}, filledWith(1), filledWith(4), picture("01234")} {
			s, ok := impl.InkSheet(p, ink)
			checkNoSheet(t, "InkSheet", s, ok)
		}
	}
}

// A placing is a row of a test for a function that gives places of prints.
type placing struct {
	list []impl.Print
	want []int
}

type placesCall func([]impl.Print) ([]int, bool)

func checkPlacings(t *testing.T, name string, call placesCall, rows []placing) {
	t.Helper()
	for _, c := range rows {
		if got, ok := call(c.list); !ok || !slices.Equal(got, c.want) {
			t.Errorf("%s(%v) = %v, %v, not %v", name, c.list, got, ok, c.want)
		}
	}
}

// checkPlacesBy compares a function with another one for all lists of the series, and asks for some results of each length in 0..5.
func checkPlacesBy(t *testing.T, name string, call placesCall, by func([]impl.Print) []int) {
	t.Helper()
	many := map[int]int{}
	for _, list := range printLists(1400) {
		want := by(list)
		got, ok := call(list)
		if !ok || !slices.Equal(got, want) {
			t.Fatalf("%s(%v) = %v, %v, not %v", name, list, got, ok, want)
		}
		many[len(got)]++
	}
	for n := range 6 {
		if many[n] < 5 {
			t.Errorf("%s gives %d places for just %d lists of the test", name, n, many[n])
		}
	}
}

func TestHiddenPrints(t *testing.T) {
	a, b, none := mark(1, sheet(7), 0, 0), mark(2, sheet(3), 1, 0), mark(3, white, 0, 0)
	checkPlacings(t, "HiddenPrints", impl.HiddenPrints, []placing{
		{nil, nil}, {[]impl.Print{a}, nil}, {[]impl.Print{none}, []int{0}}, {[]impl.Print{none, none}, []int{0, 1}}, {[]impl.Print{a, none}, []int{1}}, {[]impl.Print{none, a}, []int{0}},
		{[]impl.Print{a, b}, nil}, {[]impl.Print{b, a}, []int{0}}, {[]impl.Print{a, a}, []int{0}}, {[]impl.Print{a, a, a}, []int{0, 1}}, {[]impl.Print{a, b, a}, []int{0, 1}}, {[]impl.Print{b, a, b}, []int{0}},
		// The same cells with the same ink, and with another one.
		{[]impl.Print{mark(1, sheet(7), 0, 0), mark(1, sheet(63), 3, 0)}, []int{0}}, {[]impl.Print{mark(1, sheet(7), 0, 0), mark(2, sheet(7), 0, 0)}, []int{0}},
		// Hidden by two later ones together, but not without the one or the other.
		{[]impl.Print{a, mark(2, sheet(3), 0, 0), mark(3, sheet(3), 2, 0)}, []int{0}}, {[]impl.Print{mark(2, sheet(3), 0, 0), a, mark(3, sheet(3), 2, 0)}, []int{0}}, {[]impl.Print{mark(2, sheet(3), 0, 0), mark(3, sheet(3), 2, 0), a}, []int{0}},
		{[]impl.Print{mark(1, sheet(3), 5, 0), mark(2, unit, 0, 0), mark(2, unit, 5, 0)}, []int{0}}, {[]impl.Print{mark(1, full, 0, 0), mark(2, holed, 0, 0)}, nil}, {[]impl.Print{mark(1, full, 0, 0), mark(2, holed, 0, 0), mark(1, unit, 0, 0)}, []int{0}},
		{[]impl.Print{a, b, none, a, mark(4, unit, 5, 5), mark(4, full, 2, 2)}, []int{0, 1, 2, 3, 4}},
	})
	checkPlacesBy(t, "HiddenPrints", impl.HiddenPrints, hiddenBy)
}

func TestWholePrints(t *testing.T) {
	a, b, none := mark(1, sheet(7), 0, 0), mark(2, sheet(3), 1, 0), mark(3, white, 0, 0)
	checkPlacings(t, "WholePrints", impl.WholePrints, []placing{
		{nil, nil}, {[]impl.Print{a}, []int{0}}, {[]impl.Print{none}, []int{0}}, {[]impl.Print{none, none}, []int{0, 1}}, {[]impl.Print{a, none}, []int{0, 1}}, {[]impl.Print{none, a}, []int{0, 1}},
		{[]impl.Print{a, b}, []int{1}}, {[]impl.Print{b, a}, []int{1}}, {[]impl.Print{a, a}, []int{1}}, {[]impl.Print{a, b, none}, []int{1, 2}}, {[]impl.Print{none, b, a}, []int{0, 2}},
		// Other cells, of the same row, and of the same shape; one cell in common, even with the same ink.
		{[]impl.Print{mark(1, sheet(7), 0, 0), mark(2, sheet(7), 3, 0)}, []int{0, 1}}, {[]impl.Print{mark(1, sheet(7), 0, 0), mark(2, sheet(7), 0, 1)}, []int{0, 1}}, {[]impl.Print{mark(1, sheet(7), 0, 0), mark(1, sheet(7), 2, 0)}, []int{1}},
		{[]impl.Print{mark(1, sheet(3), 5, 0), mark(2, unit, 0, 0)}, []int{1}}, {[]impl.Print{mark(1, unit, 0, 0), mark(2, holed, 0, 0)}, []int{0, 1}}, {[]impl.Print{mark(1, unit, 0, 0), mark(2, unit, 3, 3), mark(3, sheet(1, 1), 0, 0)}, []int{1, 2}},
		{[]impl.Print{mark(1, unit, 0, 0), mark(2, unit, 1, 0), mark(3, unit, 2, 0), mark(4, unit, 3, 0), mark(1, unit, 4, 0), mark(2, unit, 5, 0)}, []int{0, 1, 2, 3, 4, 5}},
	})
	checkPlacesBy(t, "WholePrints", impl.WholePrints, wholeBy)
}

// A print without cells is hidden and whole at once; a print with cells is not both, and the last one is whole.
func TestHiddenAndWholePrints(t *testing.T) {
	for _, list := range printLists(700) {
		hidden, one := impl.HiddenPrints(list)
		whole, two := impl.WholePrints(list)
		for i, x := range list {
			both := slices.Contains(hidden, i) && slices.Contains(whole, i)
			if !one || !two || both != (x.Stamp == white) || i == len(list)-1 && !slices.Contains(whole, i) {
				t.Fatalf("of %v, %v are hidden and %v are whole", list, hidden, whole)
			}
		}
	}
}

func TestHiddenPrintsCanAllBeLeftOut(t *testing.T) {
	for _, list := range printLists(700) {
		p, one := impl.PictureOf(list)
		hidden, two := impl.HiddenPrints(list)
		fewest, three := impl.FewestPrints(list)
		var seen []impl.Print
		for i, x := range list {
			if !slices.Contains(hidden, i) {
				seen = append(seen, x)
			}
		}
		if without, ok := impl.PictureOf(seen); !ok || !one || !two || !three || without != p || len(fewest) > len(seen) {
			t.Fatalf("%v without %v give %v, and not %v", list, hidden, without, p)
		}
	}
}

func TestIsRightOrder(t *testing.T) {
	a, b, c, none := mark(1, sheet(7), 0, 0), mark(2, sheet(3), 1, 0), mark(1, unit, 4, 4), mark(3, white, 0, 0)
	for _, row := range []struct {
		p     impl.Picture
		list  []impl.Print
		order []int
		want  bool
	}{
		{impl.Picture{}, nil, nil, true}, {impl.Picture{}, []impl.Print{}, []int{}, true}, {picture("1"), nil, nil, false}, {filledWith(4), nil, nil, false},
		{impl.Picture{}, []impl.Print{none}, []int{0}, true}, {picture("1"), []impl.Print{none}, []int{0}, false}, {picture("111"), []impl.Print{a}, []int{0}, true}, {picture("112"), []impl.Print{a}, []int{0}, false}, {impl.Picture{}, []impl.Print{a}, []int{0}, false},
		{picture("122"), []impl.Print{a, b}, []int{0, 1}, true}, {picture("122"), []impl.Print{a, b}, []int{1, 0}, false}, {picture("111"), []impl.Print{a, b}, []int{0, 1}, false}, {picture("111"), []impl.Print{a, b}, []int{1, 0}, true},
		{picture("122"), []impl.Print{b, a}, []int{0, 1}, false}, {picture("122"), []impl.Print{b, a}, []int{1, 0}, true}, {picture("111"), []impl.Print{a, a}, []int{0, 1}, true}, {picture("111"), []impl.Print{a, a}, []int{1, 0}, true},
		// An order tells the places as the prints are made, not the time at which each place is.
		{picture("122", "", "", "", "00001"), []impl.Print{b, c, a}, []int{2, 0, 1}, true}, {picture("122", "", "", "", "00001"), []impl.Print{b, c, a}, []int{1, 2, 0}, true}, {picture("122", "", "", "", "00001"), []impl.Print{b, c, a}, []int{0, 2, 1}, false},
		{picture("122", "", "", "", "00001"), []impl.Print{b, a, c}, []int{1, 2, 0}, true}, {picture("122", "", "", "", "00001"), []impl.Print{b, a, c}, []int{2, 0, 1}, false},
		{filledWith(3), []impl.Print{a, b, c, none, mark(4, full, 0, 0), mark(3, full, 1, 1)}, []int{4, 3, 2, 1, 0, 5}, true}, {filledWith(3), []impl.Print{a, b, c, none, mark(4, full, 0, 0), mark(3, full, 1, 1)}, []int{5, 4, 3, 2, 1, 0}, false},
	} {
		if is, ok := impl.IsRightOrder(row.p, row.list, row.order); !ok || is != row.want {
			t.Errorf("IsRightOrder(%v, %v, %v) = %v, %v", row.p, row.list, row.order, is, ok)
		}
	}
	both := map[bool]int{}
	for _, list := range printLists(140) {
		grids := gridsOf(list)
		for _, p := range picturesFor(list) {
			for _, order := range ordersOf(len(list)) {
				want := madeBy(list, grids, order) == p
				if is, ok := impl.IsRightOrder(p, list, order); !ok || is != want {
					t.Fatalf("IsRightOrder(%v, %v, %v) = %v, %v", p, list, order, is, ok)
				}
				both[want]++
			}
		}
	}
	if both[true] < 2000 || both[false] < 2000 {
		t.Errorf("%d orders of the test are right, and %d are not", both[true], both[false])
	}
}

// noOrders are no orders of n prints.
func noOrders(n int) [][]int {
	all := placesBelow(n)
	bad := [][]int{append(placesBelow(n), n), append(placesBelow(n), 0), append(placesBelow(n), -1), append([]int{0}, all...), placesBelow(n + 2), placesBelow(7), make([]int, 100000), {math.MinInt}, {math.MaxInt}}
	if n > 0 {
		bad = append(bad, nil, all[:n-1], all[1:])
	}
	for i := range n {
		for _, place := range []int{-1, -n, n, n + 1, 6, 7, 64, 1 << 32, math.MaxInt, math.MinInt, math.MinInt + 1} {
			order := placesBelow(n)
			order[i] = place
			bad = append(bad, order)
		}
		for j := range n {
			if order := placesBelow(n); j != i {
				order[i] = j
				bad = append(bad, order)
			}
		}
	}
	return slices.DeleteFunc(bad, func(order []int) bool {
		return slices.ContainsFunc(ordersOf(n), func(is []int) bool { return slices.Equal(is, order) })
	})
}

func TestIsRightOrderOfOtherListsFails(t *testing.T) {
	six := []impl.Print{mark(1, sheet(7), 0, 0), mark(2, sheet(3), 1, 0), mark(1, sheet(7), 0, 0), mark(3, white, 0, 0), mark(4, full, 0, 0), mark(4, full, 0, 0)}
	for n := range len(six) + 1 {
		list := six[:n]
		for _, order := range noOrders(n) {
			for _, p := range []impl.Picture{madeInOrder(list), {}, filledWith(4)} {
				if is, ok := impl.IsRightOrder(p, list, order); ok || is {
					t.Errorf("IsRightOrder(%v, %v, %.20v) = %v, %v", p, list, order, is, ok)
				}
			}
		}
	}
}

func TestFirstOrderAndCountOrders(t *testing.T) {
	a, b, c, none := mark(1, sheet(7), 0, 0), mark(2, sheet(3), 1, 0), mark(1, unit, 4, 4), mark(3, white, 0, 0)
	full3, full4 := mark(3, full, 0, 0), mark(4, full, 2, 5)
	for _, row := range []struct {
		p     impl.Picture
		list  []impl.Print
		first []int
		many  int
	}{
		{impl.Picture{}, nil, nil, 1}, {picture("1"), nil, nil, 0}, {impl.Picture{}, []impl.Print{none}, []int{0}, 1}, {impl.Picture{}, []impl.Print{none, none, none}, []int{0, 1, 2}, 6}, {picture("111"), []impl.Print{a}, []int{0}, 1}, {impl.Picture{}, []impl.Print{a}, nil, 0},
		{picture("122"), []impl.Print{a, b}, []int{0, 1}, 1}, {picture("122"), []impl.Print{b, a}, []int{1, 0}, 1}, {picture("111"), []impl.Print{a, b}, []int{1, 0}, 1}, {picture("111"), []impl.Print{a, a}, []int{0, 1}, 2}, {picture("222"), []impl.Print{a, b}, nil, 0}, {picture("121"), []impl.Print{a, b}, nil, 0},
		{picture("122", "", "", "", "00001"), []impl.Print{b, c, a}, []int{1, 2, 0}, 3}, {picture("111", "", "", "", "00001"), []impl.Print{b, c, a}, []int{0, 1, 2}, 3}, {picture("122", "", "", "", "00002"), []impl.Print{b, c, a}, nil, 0}, {picture("122"), []impl.Print{b, c, a}, nil, 0},
		// All orders give the picture, the half of them, just those with one print at the end, and just one.
		{picture("111"), []impl.Print{a, a, a, a, none, none}, []int{0, 1, 2, 3, 4, 5}, 720}, {picture("122"), []impl.Print{none, b, none, none, a, none}, []int{0, 2, 3, 4, 1, 5}, 360}, {filledWith(4), []impl.Print{full4, a, b, c, none, full3}, []int{1, 2, 3, 4, 5, 0}, 144},
		{filledWith(4), []impl.Print{full4, a, b, c, a, full3}, []int{1, 2, 3, 4, 5, 0}, 120},
		{picture("123433"), []impl.Print{mark(3, sheet(7), 3, 0), mark(4, unit, 3, 0), mark(3, sheet(7), 2, 0), mark(2, sheet(7), 1, 0), mark(1, sheet(3), 0, 0), none}, []int{0, 4, 3, 2, 1, 5}, 24},
		{picture("123412"), []impl.Print{mark(2, sheet(1), 5, 0), mark(1, sheet(3), 4, 0), mark(4, sheet(7), 3, 0), mark(3, sheet(15), 2, 0), mark(2, sheet(31), 1, 0), mark(1, sheet(63), 0, 0)}, []int{5, 4, 3, 2, 1, 0}, 1},
		{picture("123412"), []impl.Print{mark(1, sheet(63), 0, 0), mark(2, sheet(31), 1, 0), mark(3, sheet(15), 2, 0), mark(4, sheet(7), 3, 0), mark(1, sheet(3), 4, 0), mark(2, sheet(1), 5, 0)}, []int{0, 1, 2, 3, 4, 5}, 1},
	} {
		order, ok := impl.FirstOrder(row.p, row.list)
		n, counted := impl.CountOrders(row.p, row.list)
		if ok != (row.many > 0) || !slices.Equal(order, row.first) || !counted || n != row.many {
			t.Errorf("%v of %v: FirstOrder %v, %v, not %v, CountOrders %d, %v, not %d", row.p, row.list, order, ok, row.first, n, counted, row.many)
		}
	}
}

func TestOrdersAreThoseOfADirectTrial(t *testing.T) {
	none, some, all, notFirst := 0, 0, 0, 0
	for _, list := range printLists(350) {
		orders := ordersOf(len(list))
		for _, p := range picturesFor(list) {
			right := rightOrdersBy(p, list)
			n, one := impl.CountOrders(p, list)
			first, two := impl.FirstOrder(p, list)
			if !one || n != len(right) || two != (n > 0) || !two && len(first) != 0 || two && !slices.Equal(first, right[0]) {
				t.Fatalf("%v of %v: CountOrders %d, %v, not %d, FirstOrder %v, %v", p, list, n, one, len(right), first, two)
			}
			switch n {
			case 0:
				none++
			case len(orders):
				all++
			default:
				some++
			}
			if n > 0 && !slices.Equal(first, orders[0]) {
				notFirst++
			}
		}
	}
	if none < 100 || some < 100 || all < 100 || notFirst < 100 {
		t.Errorf("no orders are right for %d pictures of the test, some for %d, all for %d, and others than the first one for %d", none, some, all, notFirst)
	}
}

func TestOrderInWhichPrintsWereMadeIsRight(t *testing.T) {
	for _, list := range printLists(700) {
		p, one := impl.PictureOf(list)
		is, two := impl.IsRightOrder(p, list, placesBelow(len(list)))
		n, three := impl.CountOrders(p, list)
		first, four := impl.FirstOrder(p, list)
		if !one || !two || !three || !four || !is || n < 1 || !slices.Equal(first, placesBelow(len(list))) {
			t.Fatalf("the order of %v: IsRightOrder %v, %v, CountOrders %d, %v, FirstOrder %v, %v", list, is, two, n, three, first, four)
		}
	}
}

// The prints of a list are handed over in other orders, about sixty at most; the one that leads back to the list is right then.
func TestFirstOrderIsRightAndNoneBeforeIt(t *testing.T) {
	for _, list := range printLists(126) {
		p, orders := madeInOrder(list), ordersOf(len(list))
		for i, made := range orders {
			if i%(1+len(orders)/60) != 0 {
				continue
			}
			given := make([]impl.Print, len(list))
			for i, place := range made {
				given[place] = list[i]
			}
			if is, ok := impl.IsRightOrder(p, given, made); !ok || !is {
				t.Fatalf("IsRightOrder(%v, %v, %v) = %v, %v", p, given, made, is, ok)
			}
			first, ok := impl.FirstOrder(p, given)
			if is, also := impl.IsRightOrder(p, given, first); !ok || !also || !is || slices.Compare(first, made) > 0 {
				t.Fatalf("FirstOrder(%v, %v) = %v, %v, which is right: %v, %v", p, given, first, ok, is, also)
			}
			for _, order := range orders {
				if slices.Compare(order, first) >= 0 {
					break
				}
				if is, ok := impl.IsRightOrder(p, given, order); !ok || is {
					t.Fatalf("FirstOrder(%v, %v) = %v, and %v is right, too: %v, %v", p, given, first, order, is, ok)
				}
			}
		}
	}
}

func TestLastPrints(t *testing.T) {
	a, b, none := mark(1, sheet(7), 0, 0), mark(2, sheet(3), 1, 0), mark(3, white, 0, 0)
	for _, row := range []struct {
		p    impl.Picture
		list []impl.Print
		want []int
	}{
		{impl.Picture{}, nil, nil}, {filledWith(2), nil, nil}, {impl.Picture{}, []impl.Print{none}, []int{0}}, {filledWith(2), []impl.Print{none, none}, []int{0, 1}}, {impl.Picture{}, []impl.Print{a, none}, []int{1}},
		{picture("122"), []impl.Print{a, b}, []int{1}}, {picture("111"), []impl.Print{a, b}, []int{0}}, {picture("111"), []impl.Print{a, a}, []int{0, 1}}, {picture("221"), []impl.Print{a, b}, nil},
		// They could have been made last although they were not: apart, with the same ink, or behind others.
		{picture("111022"), []impl.Print{a, mark(2, sheet(3), 4, 0)}, []int{0, 1}}, {picture("1111"), []impl.Print{a, mark(1, sheet(7), 1, 0)}, []int{0, 1}}, {picture("122"), []impl.Print{b, a, b}, []int{0, 2}},
		// Pictures that no order gives.
		{filledWith(1), []impl.Print{a, b}, []int{0}}, {picture("111222"), []impl.Print{a, b, mark(2, sheet(7), 3, 0), mark(2, sheet(15), 3, 0)}, []int{0, 2}}, {impl.Picture{}, []impl.Print{a, b, mark(4, full, 0, 0)}, nil},
		{picture("100001"), []impl.Print{mark(1, sheet(3), 5, 0), mark(1, sheet(3), 0, 0), mark(1, unit, 5, 0)}, []int{0, 2}},
	} {
		if last, ok := impl.LastPrints(row.p, row.list); !ok || !slices.Equal(last, row.want) {
			t.Errorf("LastPrints(%v, %v) = %v, %v, not %v", row.p, row.list, last, ok, row.want)
		}
	}
	for _, list := range printLists(700) {
		for _, p := range append(picturesFor(list), filledWith(1)) {
			if last, ok := impl.LastPrints(p, list); !ok || !slices.Equal(last, lastBy(p, list)) {
				t.Fatalf("LastPrints(%v, %v) = %v, %v, not %v", p, list, last, ok, lastBy(p, list))
			}
		}
	}
}

func TestLastPrintsEndRightOrders(t *testing.T) {
	others := 0
	for _, list := range printLists(280) {
		for _, p := range picturesFor(list) {
			right := rightOrdersBy(p, list)
			if len(right) == 0 {
				continue
			}
			var ends []int
			for _, order := range right {
				if n := len(order); n > 0 && !slices.Contains(ends, order[n-1]) {
					ends = append(ends, order[n-1])
				}
			}
			slices.Sort(ends)
			if last, ok := impl.LastPrints(p, list); !ok || !slices.Equal(last, ends) {
				t.Fatalf("LastPrints(%v, %v) = %v, %v, and right orders end with %v", p, list, last, ok, ends)
			}
			if len(ends) > 1 {
				others++
			}
		}
	}
	if others < 100 {
		t.Errorf("just %d pictures of the test have several prints that could have been made last", others)
	}
}

func TestOverlaps(t *testing.T) {
	a, b, none, all := mark(1, sheet(7), 0, 0), mark(2, sheet(3), 1, 0), mark(3, white, 0, 0), mark(4, full, 0, 0)
	for _, row := range []struct {
		list []impl.Print
		want [][2]int
	}{
		{nil, nil}, {[]impl.Print{a}, nil}, {[]impl.Print{none, none}, nil}, {[]impl.Print{all, none}, nil}, {[]impl.Print{a, b}, at(0, 1)}, {[]impl.Print{b, a}, at(0, 1)}, {[]impl.Print{a, a}, at(0, 1)}, {[]impl.Print{all, all, all}, at(0, 1, 0, 2, 1, 2)},
		// Just one cell in common, beside one another, around the edges, and one print hidden by a later one.
		{[]impl.Print{a, mark(1, sheet(7), 2, 0)}, at(0, 1)}, {[]impl.Print{a, mark(1, sheet(7), 3, 0)}, nil}, {[]impl.Print{a, mark(1, sheet(7), 0, 1)}, nil}, {[]impl.Print{a, mark(1, sheet(3), 5, 0)}, at(0, 1)}, {[]impl.Print{mark(1, sheet(1, 1), 3, 5), mark(2, sheet(9), 0, 0)}, at(0, 1)},
		{[]impl.Print{mark(1, unit, 0, 0), mark(2, holed, 0, 0)}, nil}, {[]impl.Print{mark(1, sheet(3), 0, 0), mark(2, holed, 0, 0)}, at(0, 1)}, {[]impl.Print{a, all, b}, at(0, 1, 0, 2, 1, 2)},
		{[]impl.Print{a, none, mark(2, unit, 5, 5), b, mark(3, unit, 0, 0), mark(4, sheet(1, 1), 5, 4)}, at(0, 3, 0, 4, 2, 5)},
		{[]impl.Print{all, all, all, all, all, all}, at(0, 1, 0, 2, 0, 3, 0, 4, 0, 5, 1, 2, 1, 3, 1, 4, 1, 5, 2, 3, 2, 4, 2, 5, 3, 4, 3, 5, 4, 5)},
	} {
		if pairs, ok := impl.Overlaps(row.list); !ok || !slices.Equal(pairs, row.want) {
			t.Errorf("Overlaps(%v) = %v, %v, not %v", row.list, pairs, ok, row.want)
		}
	}
	single := 0
	for _, list := range printLists(1400) {
		want := overlapsBy(list)
		if pairs, ok := impl.Overlaps(list); !ok || !slices.Equal(pairs, want) {
			t.Fatalf("Overlaps(%v) = %v, %v, not %v", list, pairs, ok, want)
		}
		grids := gridsOf(list)
		for _, pair := range want {
			if common(grids[pair[0]], grids[pair[1]]) == 1 {
				single++
			}
		}
	}
	if single < 200 {
		t.Errorf("just %d pairs of the test have one cell in common", single)
	}
}

func TestPrintsWithoutOverlapsCanBeMadeInAnyOrder(t *testing.T) {
	apart := map[int]int{}
	for _, list := range printLists(1400) {
		pairs, one := impl.Overlaps(list)
		if !one {
			t.Fatalf("Overlaps(%v) fails", list)
		}
		if len(pairs) > 0 {
			continue
		}
		apart[len(list)]++
		p, two := impl.PictureOf(list)
		n, three := impl.CountOrders(p, list)
		if orders := ordersOf(len(list)); !two || !three || n != len(orders) {
			t.Fatalf("CountOrders(%v, %v) = %d, %v, not %d", p, list, n, three, len(orders))
		}
		for _, order := range ordersOf(len(list)) {
			other := make([]impl.Print, len(list))
			for i, place := range order {
				other[i] = list[place]
			}
			is, four := impl.IsRightOrder(p, list, order)
			if same, ok := impl.PictureOf(other); !ok || !four || !is || same != p {
				t.Fatalf("%v give %v, and in the order %v they give %v: %v, %v", list, p, order, same, is, four)
			}
		}
		whole, four := impl.WholePrints(list)
		if !four || !slices.Equal(whole, placesBelow(len(list))) {
			t.Fatalf("WholePrints(%v) = %v, %v", list, whole, four)
		}
	}
	for n := range 7 {
		if apart[n] < 3 {
			t.Errorf("just %d lists of %d prints of the test have no overlaps", apart[n], n)
		}
	}
}

func TestFewestPrints(t *testing.T) {
	a, b, none := mark(1, sheet(7), 0, 0), mark(2, sheet(3), 1, 0), mark(3, white, 0, 0)
	checkPlacings(t, "FewestPrints", impl.FewestPrints, []placing{
		{nil, nil}, {[]impl.Print{a}, []int{0}}, {[]impl.Print{none}, nil}, {[]impl.Print{none, none, none, none, none, none}, nil}, {[]impl.Print{none, a, none}, []int{1}}, {[]impl.Print{a, b}, []int{0, 1}}, {[]impl.Print{b, a}, []int{1}},
		// The same print several times: the first one of them does, even if it is hidden, unless another one comes between that is seen.
		{[]impl.Print{a, a}, []int{0}}, {[]impl.Print{a, a, a, a, a, a}, []int{0}}, {[]impl.Print{a, b, a}, []int{0}}, {[]impl.Print{b, a, b}, []int{1, 2}}, {[]impl.Print{a, b, b}, []int{0, 1}}, {[]impl.Print{a, a, b, b}, []int{0, 2}}, {[]impl.Print{a, mark(2, full, 0, 0), a}, []int{1, 2}},
		// Several that do as well together: the first list of the same length is taken.
		{[]impl.Print{mark(1, sheet(7), 0, 0), mark(1, sheet(7), 1, 0), mark(1, sheet(7), 2, 0)}, []int{0, 2}}, {[]impl.Print{mark(1, sheet(3), 0, 0), mark(1, sheet(3), 1, 0), mark(1, sheet(3), 2, 0)}, []int{0, 2}},
		{[]impl.Print{mark(1, sheet(7), 0, 0), mark(1, sheet(3), 2, 0), mark(1, sheet(7), 1, 0)}, []int{0, 1}}, {[]impl.Print{mark(1, sheet(3), 0, 0), mark(1, sheet(7), 1, 0), mark(1, sheet(7), 0, 0), mark(1, sheet(3), 2, 0)}, []int{0, 1}},
		{[]impl.Print{mark(1, sheet(21), 0, 0), mark(1, sheet(42), 0, 0), mark(1, sheet(7), 0, 0), mark(1, sheet(56), 0, 0)}, []int{0, 1}}, {[]impl.Print{mark(1, sheet(48), 0, 0), mark(1, sheet(7), 0, 0), mark(1, sheet(56), 0, 0), mark(1, sheet(15), 0, 0)}, []int{0, 3}},
		{[]impl.Print{mark(1, sheet(1), 0, 0), mark(1, sheet(2), 0, 0), mark(1, sheet(4), 0, 0), mark(1, sheet(8), 0, 0), mark(1, sheet(48), 0, 0), mark(1, sheet(63), 0, 0)}, []int{5}},
		// One that is not hidden can be left out, as others have the same ink beneath it and above it.
		{[]impl.Print{mark(1, sheet(7), 0, 0), mark(1, sheet(14), 0, 0), mark(1, sheet(56), 0, 0)}, []int{0, 2}}, {[]impl.Print{mark(1, full, 0, 0), mark(1, sheet(14), 0, 0), mark(2, unit, 0, 0), mark(1, sheet(3), 1, 1)}, []int{0, 2}},
		{[]impl.Print{mark(1, unit, 0, 0), mark(2, unit, 1, 0), mark(3, unit, 2, 0), mark(4, unit, 3, 0), mark(1, unit, 4, 0), mark(2, unit, 5, 0)}, []int{0, 1, 2, 3, 4, 5}},
		{[]impl.Print{mark(1, unit, 0, 0), mark(2, unit, 1, 0), mark(3, unit, 2, 0), mark(4, unit, 3, 0), mark(1, unit, 4, 0), mark(2, full, 5, 0)}, []int{5}},
	})
	checkPlacesBy(t, "FewestPrints", impl.FewestPrints, fewestBy)
}

func TestFewestPrintsGiveTheSamePictureAndNoShorterListDoes(t *testing.T) {
	out, same := map[int]int{}, 0
	for _, list := range printLists(1400) {
		p, one := impl.PictureOf(list)
		fewest, two := impl.FewestPrints(list)
		chosen := func(places []int) impl.Picture {
			var some []impl.Print
			for _, i := range places {
				some = append(some, list[i])
			}
			given, ok := impl.PictureOf(some)
			if !ok {
				t.Fatalf("PictureOf(%v) fails", some)
			}
			return given
		}
		if !one || !two || chosen(fewest) != p {
			t.Fatalf("FewestPrints(%v) = %v, %v, which give %v and not %v", list, fewest, two, chosen(fewest), p)
		}
		out[len(list)-len(fewest)]++
		for _, places := range choicesFrom(len(list)) {
			if len(places) > len(fewest) {
				break
			}
			if slices.Equal(places, fewest) || chosen(places) != p {
				continue
			}
			if len(places) < len(fewest) || slices.Compare(places, fewest) < 0 {
				t.Fatalf("FewestPrints(%v) = %v, and %v do, too", list, fewest, places)
			}
			same++
		}
	}
	for n := range 6 {
		if out[n] < 20 {
			t.Errorf("%d prints can be left out of just %d lists of the test", n, out[n])
		}
	}
	if same < 100 {
		t.Errorf("just %d lists of places of the test are as long as the fewest ones", same)
	}
}

func TestSwapPrints(t *testing.T) {
	a, b, none := mark(1, sheet(7), 0, 0), mark(2, sheet(3), 1, 0), mark(3, white, 0, 0)
	six := []impl.Print{a, b, none, mark(4, unit, 1, 0), mark(4, sheet(7), 1, 0), mark(1, unit, 3, 0)}
	for _, row := range []struct {
		list []impl.Print
		i    int
		want bool
	}{
		{[]impl.Print{a, b}, 0, false}, {[]impl.Print{b, a}, 0, false}, {[]impl.Print{a, a}, 0, true}, {[]impl.Print{a, none}, 0, true}, {[]impl.Print{none, a}, 0, true}, {[]impl.Print{none, none}, 0, true},
		{[]impl.Print{a, mark(2, sheet(7), 3, 0)}, 0, true}, {[]impl.Print{a, mark(2, sheet(7), 2, 0)}, 0, false}, {[]impl.Print{a, mark(1, sheet(7), 2, 0)}, 0, true}, {[]impl.Print{mark(1, sheet(3), 5, 0), mark(2, unit, 0, 0)}, 0, false},
		// What both have in common is covered by a later print, or just a part of it is.
		{[]impl.Print{a, b, mark(3, sheet(6), 0, 0)}, 0, true}, {[]impl.Print{a, b, mark(3, unit, 1, 0)}, 0, false}, {[]impl.Print{a, b, mark(3, unit, 1, 0), mark(3, unit, 2, 0)}, 0, true}, {[]impl.Print{mark(3, sheet(6), 0, 0), a, b}, 1, false},
		{six, 0, true}, {six, 1, true}, {six, 2, true}, {six, 3, true}, {six, 4, false}, {six[:4], 0, false}, {six[:4], 1, true}, {six[:4], 2, true}, {six[1:4], 1, true}, {[]impl.Print{b, mark(4, unit, 1, 0)}, 0, false},
	} {
		if can, ok := impl.SwapPrints(row.list, row.i); !ok || can != row.want {
			t.Errorf("SwapPrints(%v, %d) = %v, %v", row.list, row.i, can, ok)
		}
	}
	both := map[int]map[bool]int{}
	for _, list := range printLists(1400) {
		for i := range len(list) - 1 {
			want := swappedBy(list, i)
			if can, ok := impl.SwapPrints(list, i); !ok || can != want {
				t.Fatalf("SwapPrints(%v, %d) = %v, %v", list, i, can, ok)
			}
			if both[i] == nil {
				both[i] = map[bool]int{}
			}
			both[i][want]++
		}
	}
	for i := range 5 {
		if both[i][true] < 20 || both[i][false] < 20 {
			t.Errorf("%d prints of the test at the place %d can be exchanged, and %d cannot", both[i][true], i, both[i][false])
		}
	}
}

func TestSwapPrintsOfOtherPlacesFails(t *testing.T) {
	six := []impl.Print{mark(1, sheet(7), 0, 0), mark(1, sheet(7), 0, 0), mark(3, white, 0, 0), mark(1, sheet(7), 0, 0), mark(3, white, 0, 0), mark(1, sheet(7), 0, 0)}
	for n := range 7 {
		for _, i := range []int{-1, -2, -6, n - 1, n, n + 1, 6, 7, 63, 64, 1 << 32, -1 << 32, math.MaxInt, math.MaxInt - 1, math.MinInt, math.MinInt + 1} {
			if can, ok := impl.SwapPrints(six[:n], i); ok || can {
				t.Errorf("SwapPrints of %d prints at %d = %v, %v", n, i, can, ok)
			}
		}
	}
}

func TestPictureText(t *testing.T) {
	for _, c := range []struct {
		p    impl.Picture
		want string
	}{
		{impl.Picture{}, "....../....../....../....../....../......"}, {filledWith(1), "111111/111111/111111/111111/111111/111111"}, {filledWith(2), "222222/222222/222222/222222/222222/222222"},
		{filledWith(3), "333333/333333/333333/333333/333333/333333"}, {filledWith(4), "444444/444444/444444/444444/444444/444444"}, {picture("122"), "122.../....../....../....../....../......"},
		{picture("012340", "1", "02", "003", "0004", "000001"), ".1234./1...../.2..../..3.../...4../.....1"}, {picture("", "", "", "", "", "000004"), "....../....../....../....../....../.....4"},
	} {
		if text, ok := impl.PictureText(c.p); !ok || text != c.want {
			t.Errorf("PictureText(%v) = %q, %v", c.p, text, ok)
		}
	}
	for _, list := range printLists(300) {
		p := madeInOrder(list)
		if text, ok := impl.PictureText(p); !ok || text != pictureTextBy(p) {
			t.Errorf("PictureText(%v) = %q, %v", p, text, ok)
		}
	}
	for _, cell := range allCells() {
		for ink := range 5 {
			p := filledWith(4 - ink)
			p.Cells[cell[1]][cell[0]] = ink
			if text, ok := impl.PictureText(p); !ok || text != pictureTextBy(p) {
				t.Errorf("PictureText(%v) = %q, %v", p, text, ok)
			}
		}
	}
}

// checkNoOrders asks all functions for a picture and prints, of which something is not valid, to fail.
func checkNoOrders(t *testing.T, p impl.Picture, list []impl.Print) {
	t.Helper()
	for _, order := range [][]int{placesBelow(len(list)), nil} {
		if is, ok := impl.IsRightOrder(p, list, order); ok || is {
			t.Errorf("IsRightOrder(%v, %v, %v) = %v, %v", p, list, order, is, ok)
		}
	}
	if order, ok := impl.FirstOrder(p, list); ok || len(order) != 0 {
		t.Errorf("FirstOrder(%v, %v) = %v, %v", p, list, order, ok)
	}
	if n, ok := impl.CountOrders(p, list); ok || n != 0 {
		t.Errorf("CountOrders(%v, %v) = %d, %v", p, list, n, ok)
	}
	if last, ok := impl.LastPrints(p, list); ok || len(last) != 0 {
		t.Errorf("LastPrints(%v, %v) = %v, %v", p, list, last, ok)
	}
}

// checkNoPrints asks all functions to fail for a list that is not valid.
func checkNoPrints(t *testing.T, list []impl.Print) {
	t.Helper()
	if p, ok := impl.PictureOf(list); ok || p != (impl.Picture{}) {
		t.Errorf("PictureOf(%v) = %v, %v", list, p, ok)
	}
	for name, call := range map[string]placesCall{"HiddenPrints": impl.HiddenPrints, "WholePrints": impl.WholePrints, "FewestPrints": impl.FewestPrints} {
		if places, ok := call(list); ok || len(places) != 0 {
			t.Errorf("%s(%v) = %v, %v", name, list, places, ok)
		}
	}
	if pairs, ok := impl.Overlaps(list); ok || len(pairs) != 0 {
		t.Errorf("Overlaps(%v) = %v, %v", list, pairs, ok)
	}
	for _, i := range []int{0, 1, len(list) - 2, -1, math.MaxInt} {
		if can, ok := impl.SwapPrints(list, i); ok || can {
			t.Errorf("SwapPrints(%v, %d) = %v, %v", list, i, can, ok)
		}
	}
	for _, p := range []impl.Picture{{}, filledWith(4), picture("111")} {
		checkNoOrders(t, p, list)
	}
}

func TestInvalidPrintsFail(t *testing.T) {
	a, none := mark(1, sheet(7), 0, 0), mark(3, white, 0, 0)
	for _, bad := range badPrints() {
		for _, list := range [][]impl.Print{{bad}, {bad, bad}, {bad, a}, {a, bad}, {a, bad, none}, {bad, a, none, a, none, a}, {a, none, a, bad, none, a}, {a, none, a, none, a, bad}} {
			checkNoPrints(t, list)
		}
	}
}

func TestMoreThanMaxPrintsFail(t *testing.T) {
	for _, x := range []impl.Print{mark(1, sheet(7), 0, 0), mark(3, white, 0, 0), mark(4, full, 5, 5)} {
		for _, n := range []int{7, 8, 12, 64, 65} {
			checkNoPrints(t, slices.Repeat([]impl.Print{x}, n))
		}
		six := slices.Repeat([]impl.Print{x}, 6)
		if p, ok := impl.PictureOf(six); !ok || p != madeInOrder(six) {
			t.Errorf("PictureOf(%v) = %v, %v", six, p, ok)
		}
		checkNoPrints(t, append(six, impl.Print{}))
	}
	if p, ok := impl.PictureOf(make([]impl.Print, 1000000)); ok || p != (impl.Picture{}) {
		t.Errorf("PictureOf of a long list = %v, %v", p, ok)
	}
}

func TestInvalidPicturesFail(t *testing.T) {
	a, b, none := mark(1, sheet(7), 0, 0), mark(2, sheet(3), 1, 0), mark(3, white, 0, 0)
	for _, bad := range badPictures() {
		for _, list := range [][]impl.Print{nil, {none}, {a, b}, {mark(4, full, 0, 0)}, {mark(0, unit, 0, 0)}} {
			checkNoOrders(t, bad, list)
		}
		for ink := -1; ink <= 5; ink++ {
			s, ok := impl.InkSheet(bad, ink)
			checkNoSheet(t, "InkSheet", s, ok)
		}
		if text, ok := impl.PictureText(bad); ok || text != "" {
			t.Errorf("PictureText(%v) = %q, %v", bad, text, ok)
		}
	}
}

// callInks calls each function of the chapter that takes a list.
func callInks(p impl.Picture, list []impl.Print, order []int) {
	impl.PictureOf(list)
	impl.HiddenPrints(list)
	impl.WholePrints(list)
	impl.IsRightOrder(p, list, order)
	impl.FirstOrder(p, list)
	impl.CountOrders(p, list)
	impl.LastPrints(p, list)
	impl.Overlaps(list)
	impl.FewestPrints(list)
	for i := -1; i <= len(list); i++ {
		impl.SwapPrints(list, i)
	}
}

func TestInksModifyNoArgument(t *testing.T) {
	a, b, none := mark(1, sheet(7), 0, 0), mark(2, sheet(3), 1, 0), mark(3, white, 0, 0)
	backing := []impl.Print{b, a, none, a, mark(4, full, 2, 2), mark(0, unit, 0, 0), b, mark(1, sheet(-1), 9, 9), a, b}
	places := []int{1, 0, 2, 4, 3, 5, 9, -1, 0, math.MinInt, 2, 1, 0}
	before, placesBefore := slices.Clone(backing), slices.Clone(places)
	for from := range backing {
		for to := from; to <= len(backing); to++ {
			list := backing[from:to]
			for start := range places {
				callInks(picture("122"), list, places[start:min(start+len(list), len(places))])
			}
			callInks(filledWith(5), list, places)
			if !slices.Equal(backing, before) || !slices.Equal(places, placesBefore) {
				t.Fatalf("%v and %v are left as %v and %v", before, placesBefore, backing, places)
			}
		}
	}
}

func TestInksSameResultsAgain(t *testing.T) {
	a, b, none := mark(1, sheet(7), 0, 0), mark(2, sheet(3), 1, 0), mark(3, white, 0, 0)
	list := []impl.Print{b, a, none, b, a, mark(2, sheet(3), 1, 0)}
	p := madeInOrder(list)
	calls := map[string]placesCall{
		"HiddenPrints": impl.HiddenPrints, "WholePrints": impl.WholePrints, "FewestPrints": impl.FewestPrints,
		"FirstOrder": func(list []impl.Print) ([]int, bool) { return impl.FirstOrder(p, list) },
		"LastPrints": func(list []impl.Print) ([]int, bool) { return impl.LastPrints(p, list) },
	}
	for name, call := range calls {
		places, one := call(list)
		first := slices.Clone(places)
		longer := append(places, -1)
		for i := range longer {
			longer[i] = -1
		}
		for i := range places {
			places[i] = 7
		}
		call([]impl.Print{{}})
		if again, two := call(list); !one || !two || len(first) == 0 || !slices.Equal(again, first) {
			t.Errorf("%s gives %v and then %v", name, first, again)
		}
	}
	for range 3 {
		pairs, one := impl.Overlaps(list)
		made, two := impl.PictureOf(list)
		n, three := impl.CountOrders(p, list)
		if !one || !two || !three || !slices.Equal(pairs, overlapsBy(list)) || made != p || n != len(rightOrdersBy(p, list)) {
			t.Errorf("Overlaps %v, PictureOf %v, CountOrders %d", pairs, made, n)
		}
		for i := range pairs {
			pairs[i] = [2]int{-1, 9}
		}
		made.Cells[0][0] = 9
	}
	other := slices.Clone(list)
	made, _ := impl.PictureOf(other)
	other[1] = mark(4, full, 0, 0)
	if again, ok := impl.PictureOf(list); !ok || again != made || made != p {
		t.Errorf("PictureOf gives %v and then %v", made, again)
	}
}
