package tests

import (
	"math"
	"math/big"
	"math/bits"
	"slices"
	"testing"

	"loop.example/g01220/impl"
)

// Two sheets have half of all cells: three whole rows, and every other cell.
var (
	upperHalf  = sheet(63, 63, 63)
	chessBoard = sheet(21, 42, 21, 42, 21, 42)
	corners    = sheet(33, 0, 0, 0, 0, 33)
	diagonal   = sheet(1, 2, 4, 8, 16, 32)
)

// ratio gives the fraction in lowest terms.
func ratio(numerator, denominator int) [2]int {
	r := big.NewRat(int64(numerator), int64(denominator))
	return [2]int{int(r.Num().Int64()), int(r.Denom().Int64())}
}

// listsOf gives the number of all lists of n cells.
func listsOf(n int) int {
	lists := 1
	for range n {
		lists *= 36
	}
	return lists
}

// partsOf gives how many parts of as many as the denominator a fraction is.
func partsOf(t *testing.T, fraction [2]int, denominator int) int {
	t.Helper()
	if fraction[1] < 1 || denominator%fraction[1] != 0 {
		t.Fatalf("%v has no parts of %d", fraction, denominator)
	}
	return fraction[0] * (denominator / fraction[1])
}

type chanceCall func(s, stamp impl.Sheet, cell [2]int, n int) ([2]int, bool)

type meanCall func(s, stamp impl.Sheet, n int) ([2]int, bool)

type fractionCall func(s, stamp impl.Sheet) ([2]int, bool)

// A drawing is one of the three ways to press, with the functions of the chapter, if there is one, and of chapter 2.
type drawing struct {
	name   string
	chance chanceCall
	mean   meanCall
	press  func(s, stamp impl.Sheet, cell [2]int) (impl.Sheet, bool)
	masks  func(cells, stamp uint64) uint64
	// behind tells whether a cell is black behind some presses that meet it.
	behind func(black bool, hits int) bool
}

func drawings() []drawing {
	return []drawing{
		{"Toggled", impl.ChanceToggled, impl.MeanToggled, impl.ToggleAt, func(cells, stamp uint64) uint64 { return cells ^ stamp }, func(black bool, hits int) bool { return black == (hits%2 == 0) }},
		{"Inked", impl.ChanceInked, impl.MeanInked, impl.InkAt, func(cells, stamp uint64) uint64 { return cells | stamp }, func(black bool, hits int) bool { return black || hits > 0 }},
		{"Wiped", nil, impl.MeanWiped, impl.WipeAt, func(cells, stamp uint64) uint64 { return cells &^ stamp }, func(black bool, hits int) bool { return black && hits == 0 }},
	}
}

// chanceStamps are everywhere or nowhere, of even and of odd sizes, of half the cells, around the edges, and others.
func chanceStamps() []impl.Sheet {
	return slices.Concat(edgeStamps(), periodicStamps(), []impl.Sheet{upperHalf, corners, diagonal, sheet(62, 61, 59, 55, 47, 31)}, someSheets(6)[46:])
}

// chanceSheets are white, full, half black, and others.
func chanceSheets() []impl.Sheet {
	return append(someSheets(9)[46:], white, full, holed, unit, sheet(0, 0, 0, 0, 0, 32), upperHalf, chessBoard, uneven, corners, diagonal, sheet(63), sheet(3, 1))
}

func TestMaxPressesIsSix(t *testing.T) {
	if impl.MaxPresses != 6 {
		t.Error("MaxPresses", impl.MaxPresses)
	}
}

// A drawn row of a test has the chance for a cell behind n presses.
type drawn struct {
	s, stamp impl.Sheet
	x, y, n  int
	want     [2]int
}

func checkChances(t *testing.T, name string, call chanceCall, rows []drawn) {
	t.Helper()
	for _, c := range rows {
		if got, ok := call(c.s, c.stamp, [2]int{c.x, c.y}, c.n); !ok || got != c.want {
			t.Errorf("%s(%v, %v, %d, %d, %d) = %v, %v, not %v", name, c.s, c.stamp, c.x, c.y, c.n, got, ok, c.want)
		}
	}
}

func TestChanceToggled(t *testing.T) {
	checkChances(t, "ChanceToggled", impl.ChanceToggled, []drawn{
		{unit, unit, 0, 0, 0, [2]int{1, 1}}, {unit, unit, 1, 0, 0, [2]int{0, 1}}, {unit, unit, 0, 1, 0, [2]int{0, 1}}, {white, full, 5, 5, 0, [2]int{0, 1}}, {full, full, 5, 5, 0, [2]int{1, 1}},
		{unit, unit, 0, 0, 1, [2]int{35, 36}}, {unit, unit, 5, 5, 1, [2]int{1, 36}}, {white, unit, 0, 0, 2, [2]int{35, 648}}, {unit, unit, 0, 0, 2, [2]int{613, 648}},
		{unit, unit, 0, 0, 6, [2]int{58149793, 68024448}}, {white, unit, 5, 5, 6, [2]int{9874655, 68024448}}, {full, holed, 0, 0, 6, [2]int{58149793, 68024448}},
		{white, white, 2, 3, 1, [2]int{0, 1}}, {unit, white, 0, 0, 1, [2]int{1, 1}}, {full, white, 2, 3, 6, [2]int{1, 1}}, {unit, white, 1, 0, 6, [2]int{0, 1}},
		{white, full, 2, 3, 1, [2]int{1, 1}}, {unit, full, 0, 0, 1, [2]int{0, 1}}, {full, full, 2, 3, 6, [2]int{1, 1}}, {unit, full, 1, 0, 5, [2]int{1, 1}}, {unit, full, 1, 0, 6, [2]int{0, 1}},
		{white, sheet(3), 0, 0, 2, [2]int{17, 162}}, {white, sheet(33), 0, 0, 2, [2]int{17, 162}}, {white, sheet(3), 0, 0, 3, [2]int{217, 1458}}, {full, sheet(3), 0, 0, 3, [2]int{1241, 1458}},
		{white, holed, 0, 0, 1, [2]int{35, 36}}, {white, holed, 3, 4, 2, [2]int{35, 648}}, {full, holed, 0, 0, 1, [2]int{1, 36}},
		{white, uneven, 2, 2, 4, [2]int{2080, 6561}}, {white, uneven, 2, 2, 5, [2]int{21121, 59049}}, {full, uneven, 2, 2, 4, [2]int{4481, 6561}}, {uneven, uneven, 1, 0, 1, [2]int{8, 9}}, {uneven, uneven, 2, 0, 1, [2]int{1, 9}},
		{white, corners, 2, 2, 1, [2]int{1, 9}}, {white, sheet(63), 5, 5, 1, [2]int{1, 6}}, {white, sheet(63), 5, 5, 2, [2]int{5, 18}},
		{white, upperHalf, 0, 0, 1, [2]int{1, 2}}, {full, upperHalf, 5, 5, 1, [2]int{1, 2}}, {full, chessBoard, 0, 0, 6, [2]int{1, 2}}, {chessBoard, chessBoard, 1, 0, 0, [2]int{0, 1}},
	})
}

func TestChanceInked(t *testing.T) {
	checkChances(t, "ChanceInked", impl.ChanceInked, []drawn{
		{unit, unit, 0, 0, 0, [2]int{1, 1}}, {unit, unit, 1, 0, 0, [2]int{0, 1}}, {unit, unit, 0, 1, 0, [2]int{0, 1}}, {white, full, 5, 5, 0, [2]int{0, 1}}, {full, full, 5, 5, 0, [2]int{1, 1}},
		{unit, unit, 0, 0, 1, [2]int{1, 1}}, {unit, unit, 5, 5, 1, [2]int{1, 36}}, {white, unit, 0, 0, 2, [2]int{71, 1296}}, {unit, unit, 0, 0, 6, [2]int{1, 1}}, {white, unit, 5, 5, 6, [2]int{338516711, 2176782336}},
		{white, white, 2, 3, 1, [2]int{0, 1}}, {unit, white, 0, 0, 1, [2]int{1, 1}}, {full, white, 2, 3, 6, [2]int{1, 1}}, {unit, white, 1, 0, 6, [2]int{0, 1}},
		{white, full, 2, 3, 1, [2]int{1, 1}}, {unit, full, 0, 0, 1, [2]int{1, 1}}, {white, full, 2, 3, 6, [2]int{1, 1}},
		{white, sheet(3), 0, 0, 2, [2]int{35, 324}}, {white, sheet(33), 0, 0, 2, [2]int{35, 324}}, {white, sheet(3), 0, 0, 3, [2]int{919, 5832}}, {full, sheet(3), 0, 0, 3, [2]int{1, 1}},
		{white, holed, 0, 0, 1, [2]int{35, 36}}, {white, holed, 3, 4, 2, [2]int{1295, 1296}}, {white, holed, 3, 4, 6, [2]int{2176782335, 2176782336}},
		{white, uneven, 2, 2, 4, [2]int{2465, 6561}}, {white, uneven, 2, 2, 5, [2]int{26281, 59049}}, {uneven, uneven, 2, 0, 1, [2]int{1, 9}}, {uneven, uneven, 3, 0, 1, [2]int{1, 1}},
		{white, corners, 2, 2, 1, [2]int{1, 9}}, {white, sheet(63), 5, 5, 2, [2]int{11, 36}}, {white, upperHalf, 0, 0, 1, [2]int{1, 2}}, {white, chessBoard, 0, 0, 6, [2]int{63, 64}},
	})
}

// A mean row of a test has the means behind n presses that toggle, ink and wipe.
type meansOf struct {
	s, stamp impl.Sheet
	n        int
	want     [3][2]int
}

func TestMeans(t *testing.T) {
	for _, c := range []meansOf{
		{white, unit, 0, [3][2]int{{0, 1}, {0, 1}, {0, 1}}}, {full, unit, 0, [3][2]int{{36, 1}, {36, 1}, {36, 1}}}, {uneven, full, 0, [3][2]int{{4, 1}, {4, 1}, {4, 1}}},
		{white, white, 6, [3][2]int{{0, 1}, {0, 1}, {0, 1}}}, {full, white, 6, [3][2]int{{36, 1}, {36, 1}, {36, 1}}}, {uneven, white, 1, [3][2]int{{4, 1}, {4, 1}, {4, 1}}},
		{white, full, 1, [3][2]int{{36, 1}, {36, 1}, {0, 1}}}, {full, full, 1, [3][2]int{{0, 1}, {36, 1}, {0, 1}}}, {uneven, full, 5, [3][2]int{{32, 1}, {36, 1}, {0, 1}}}, {uneven, full, 6, [3][2]int{{4, 1}, {36, 1}, {0, 1}}},
		{white, unit, 1, [3][2]int{{1, 1}, {1, 1}, {0, 1}}}, {full, unit, 1, [3][2]int{{35, 1}, {36, 1}, {35, 1}}}, {white, unit, 2, [3][2]int{{35, 18}, {71, 36}, {0, 1}}}, {full, unit, 2, [3][2]int{{613, 18}, {36, 1}, {1225, 36}}},
		{white, unit, 6, [3][2]int{{9874655, 1889568}, {338516711, 60466176}, {0, 1}}}, {full, unit, 6, [3][2]int{{58149793, 1889568}, {36, 1}, {1838265625, 60466176}}},
		{white, sheet(3), 1, [3][2]int{{2, 1}, {2, 1}, {0, 1}}}, {full, sheet(33), 1, [3][2]int{{34, 1}, {36, 1}, {34, 1}}}, {sheet(3, 1), sheet(3), 2, [3][2]int{{166, 27}, {709, 108}, {289, 108}}},
		{uneven, uneven, 1, [3][2]int{{64, 9}, {68, 9}, {32, 9}}}, {uneven, uneven, 2, [3][2]int{{772, 81}, {868, 81}, {256, 81}}}, {uneven, uneven, 3, [3][2]int{{8320, 729}, {9860, 729}, {2048, 729}}},
		{chessBoard, sheet(3), 3, [3][2]int{{18, 1}, {6751, 324}, {4913, 324}}}, {chessBoard, chessBoard, 1, [3][2]int{{18, 1}, {27, 1}, {9, 1}}}, {chessBoard, chessBoard, 2, [3][2]int{{18, 1}, {63, 2}, {9, 2}}},
		{unit, upperHalf, 1, [3][2]int{{18, 1}, {37, 2}, {1, 2}}}, {unit, upperHalf, 6, [3][2]int{{18, 1}, {2269, 64}, {1, 64}}}, {holed, upperHalf, 6, [3][2]int{{18, 1}, {2303, 64}, {35, 64}}}, {upperHalf, sheet(3), 6, [3][2]int{{18, 1}, {43886879, 1889568}, {24137569, 1889568}}},
		{white, holed, 1, [3][2]int{{35, 1}, {35, 1}, {0, 1}}}, {white, holed, 2, [3][2]int{{35, 18}, {1295, 36}, {0, 1}}}, {full, holed, 2, [3][2]int{{613, 18}, {36, 1}, {1, 36}}}, {holed, holed, 6, [3][2]int{{1022558705, 34012224}, {78364164095, 2176782336}, {35, 2176782336}}},
		{unit, corners, 1, [3][2]int{{43, 9}, {44, 9}, {8, 9}}}, {upperHalf, corners, 1, [3][2]int{{18, 1}, {20, 1}, {16, 1}}}, {diagonal, corners, 2, [3][2]int{{290, 27}, {332, 27}, {128, 27}}}, {sheet(63), sheet(63), 4, [3][2]int{{422, 27}, {4651, 216}, {625, 216}}},
	} {
		for i, d := range drawings() {
			if got, ok := d.mean(c.s, c.stamp, c.n); !ok || got != c.want[i] {
				t.Errorf("Mean%s(%v, %v, %d) = %v, %v, not %v", d.name, c.s, c.stamp, c.n, got, ok, c.want[i])
			}
		}
	}
}

// blackBehind tries all lists of n presses, and gives for each cell, by row and then column, behind how many of them it is black.
func blackBehind(d drawing, s, stamp impl.Sheet, n int) [36]int {
	masks := masksOf(stamp, allCells())
	var counts [36]int
	var press func(cells uint64, left int)
	press = func(cells uint64, left int) {
		if left == 0 {
			for ; cells != 0; cells &= cells - 1 {
				counts[bits.TrailingZeros64(cells)]++
			}
			return
		}
		for _, mask := range masks {
			press(d.masks(cells, mask), left-1)
		}
	}
	press(maskOf(s), n)
	return counts
}

// checkCounts asks for the chances and the mean that belong to the numbers of lists behind which the cells are black.
func checkCounts(t *testing.T, d drawing, s, stamp impl.Sheet, n int, counts [36]int) {
	t.Helper()
	sum := 0
	for i, cell := range allCells() {
		sum += counts[i]
		if d.chance == nil {
			continue
		}
		want := ratio(counts[i], listsOf(n))
		if got, ok := d.chance(s, stamp, cell, n); !ok || got != want {
			t.Fatalf("Chance%s(%v, %v, %v, %d) = %v, %v, not %v", d.name, s, stamp, cell, n, got, ok, want)
		}
	}
	want := ratio(sum, listsOf(n))
	if got, ok := d.mean(s, stamp, n); !ok || got != want {
		t.Fatalf("Mean%s(%v, %v, %d) = %v, %v, not %v", d.name, s, stamp, n, got, ok, want)
	}
}

func TestChancesOfUpToThreePressesAreThoseOfADirectCount(t *testing.T) {
	for i, stamp := range chanceStamps() {
		sheets := chanceSheets()
		for k, s := range sheets {
			for n := range 4 {
				if n == 3 && (i+k)%4 != 0 {
					continue
				}
				for _, d := range drawings() {
					checkCounts(t, d, s, stamp, n, blackBehind(d, s, stamp, n))
				}
			}
		}
	}
}

// Of all lists of n presses, as many meet a cell some number of times as there are choices of these presses, and cells for each press.
func TestChancesAreThoseOfTheNumbersOfHits(t *testing.T) {
	choices := [7][7]int{{1}, {1, 1}, {1, 2, 1}, {1, 3, 3, 1}, {1, 4, 6, 4, 1}, {1, 5, 10, 10, 5, 1}, {1, 6, 15, 20, 15, 6, 1}}
	for _, stamp := range chanceStamps() {
		size := sizeOf(stamp)
		for _, s := range chanceSheets() {
			for n := range 7 {
				for _, d := range drawings() {
					var counts [36]int
					for i, cell := range allCells() {
						for hits := range n + 1 {
							lists := choices[n][hits]
							for press := range n {
								if press < hits {
									lists *= size
								} else {
									lists *= 36 - size
								}
							}
							if d.behind(gridOf(s)[cell[1]][cell[0]], hits) {
								counts[i] += lists
							}
						}
					}
					checkCounts(t, d, s, stamp, n, counts)
				}
			}
		}
	}
}

// The mean behind n presses is that of the means behind n - 1 more presses on what each first press makes.
func TestMeansBehindAFirstPress(t *testing.T) {
	stamps := chanceStamps()
	for i, s := range chanceSheets() {
		for _, stamp := range []impl.Sheet{stamps[i], stamps[i+20], white, full, uneven, upperHalf} {
			for _, d := range drawings() {
				for n := range 6 {
					sum, black := 0, 0
					for _, cell := range allCells() {
						pressed, one := d.press(s, stamp, cell)
						mean, two := d.mean(pressed, stamp, n)
						if !one || !two {
							t.Fatalf("Mean%s(%v, %v, %d) fails", d.name, pressed, stamp, n)
						}
						sum += partsOf(t, mean, listsOf(n))
						if d.chance != nil {
							chance, _ := d.chance(pressed, stamp, [2]int{4, 1}, n)
							black += partsOf(t, chance, listsOf(n))
						}
					}
					if got, ok := d.mean(s, stamp, n+1); !ok || got != ratio(sum, listsOf(n+1)) {
						t.Fatalf("Mean%s(%v, %v, %d) = %v, %v, not %v", d.name, s, stamp, n+1, got, ok, ratio(sum, listsOf(n+1)))
					}
					if d.chance == nil {
						continue
					}
					if got, ok := d.chance(s, stamp, [2]int{4, 1}, n+1); !ok || got != ratio(black, listsOf(n+1)) {
						t.Fatalf("Chance%s(%v, %v, 4, 1, %d) = %v, %v, not %v", d.name, s, stamp, n+1, got, ok, ratio(black, listsOf(n+1)))
					}
				}
			}
		}
	}
}

func TestInkedGetsNoLessAndWipedNoGreater(t *testing.T) {
	grown, lessened := 0, 0
	for _, stamp := range chanceStamps() {
		for _, s := range chanceSheets() {
			for n := range 6 {
				for _, cell := range allCells() {
					chance, one := impl.ChanceInked(s, stamp, cell, n)
					more, two := impl.ChanceInked(s, stamp, cell, n+1)
					if !one || !two || more[0]*chance[1] < chance[0]*more[1] {
						t.Fatalf("ChanceInked(%v, %v, %v) is %v and then %v", s, stamp, cell, chance, more)
					}
					if more != chance {
						grown++
					}
				}
				mean, one := impl.MeanWiped(s, stamp, n)
				less, two := impl.MeanWiped(s, stamp, n+1)
				if !one || !two || less[0]*mean[1] > mean[0]*less[1] {
					t.Fatalf("MeanWiped(%v, %v) is %v and then %v", s, stamp, mean, less)
				}
				if less != mean {
					lessened++
				}
			}
		}
	}
	if grown < 10000 || lessened < 1000 {
		t.Errorf("just %d chances of the test grow, and %d means get less", grown, lessened)
	}
}

// A shared row of a test has at how many cells there are how many black cells in common, and what follows of it; no wait is told by 0, 0.
type sharing struct {
	s, stamp          impl.Sheet
	table             map[int]int
	fits, apart, mean [2]int
	wait, best        [2]int
	most              int
}

func sharings() []sharing {
	return []sharing{
		{white, white, map[int]int{0: 36}, [2]int{1, 1}, [2]int{1, 1}, [2]int{0, 1}, [2]int{1, 1}, [2]int{0, 0}, 0},
		{full, white, map[int]int{0: 36}, [2]int{1, 1}, [2]int{1, 1}, [2]int{0, 1}, [2]int{1, 1}, [2]int{0, 0}, 0},
		{white, full, map[int]int{0: 36}, [2]int{0, 1}, [2]int{1, 1}, [2]int{0, 1}, [2]int{0, 0}, [2]int{0, 0}, 0},
		{white, unit, map[int]int{0: 36}, [2]int{0, 1}, [2]int{1, 1}, [2]int{0, 1}, [2]int{0, 0}, [2]int{0, 0}, 0},
		{full, full, map[int]int{36: 36}, [2]int{1, 1}, [2]int{0, 1}, [2]int{36, 1}, [2]int{1, 1}, [2]int{0, 0}, 36},
		{full, uneven, map[int]int{4: 36}, [2]int{1, 1}, [2]int{0, 1}, [2]int{4, 1}, [2]int{1, 1}, [2]int{0, 0}, 4},
		{uneven, full, map[int]int{4: 36}, [2]int{0, 1}, [2]int{0, 1}, [2]int{4, 1}, [2]int{0, 0}, [2]int{0, 0}, 4},
		{unit, unit, map[int]int{0: 35, 1: 1}, [2]int{1, 36}, [2]int{35, 36}, [2]int{1, 36}, [2]int{36, 1}, [2]int{0, 0}, 1},
		{sheet(0, 0, 0, 0, 0, 32), unit, map[int]int{0: 35, 1: 1}, [2]int{1, 36}, [2]int{35, 36}, [2]int{1, 36}, [2]int{36, 1}, [2]int{5, 5}, 1},
		{unit, sheet(0, 0, 0, 0, 0, 32), map[int]int{0: 35, 1: 1}, [2]int{1, 36}, [2]int{35, 36}, [2]int{1, 36}, [2]int{36, 1}, [2]int{1, 1}, 1},
		{holed, holed, map[int]int{34: 35, 35: 1}, [2]int{1, 36}, [2]int{0, 1}, [2]int{1225, 36}, [2]int{36, 1}, [2]int{0, 0}, 35},
		{holed, full, map[int]int{35: 36}, [2]int{0, 1}, [2]int{0, 1}, [2]int{35, 1}, [2]int{0, 0}, [2]int{0, 0}, 35},
		{holed, chessBoard, map[int]int{17: 18, 18: 18}, [2]int{1, 2}, [2]int{0, 1}, [2]int{35, 2}, [2]int{2, 1}, [2]int{1, 0}, 18},
		{holed, upperHalf, map[int]int{17: 18, 18: 18}, [2]int{1, 2}, [2]int{0, 1}, [2]int{35, 2}, [2]int{2, 1}, [2]int{0, 1}, 18},
		{holed, sheet(3), map[int]int{1: 2, 2: 34}, [2]int{17, 18}, [2]int{0, 1}, [2]int{35, 18}, [2]int{18, 17}, [2]int{1, 0}, 2},
		{holed, sheet(33), map[int]int{1: 2, 2: 34}, [2]int{17, 18}, [2]int{0, 1}, [2]int{35, 18}, [2]int{18, 17}, [2]int{2, 0}, 2},
		{holed, corners, map[int]int{3: 4, 4: 32}, [2]int{8, 9}, [2]int{0, 1}, [2]int{35, 9}, [2]int{9, 8}, [2]int{2, 0}, 4},
		{holed, sheet(63), map[int]int{5: 6, 6: 30}, [2]int{5, 6}, [2]int{0, 1}, [2]int{35, 6}, [2]int{6, 5}, [2]int{0, 1}, 6},
		{chessBoard, chessBoard, map[int]int{0: 18, 18: 18}, [2]int{1, 2}, [2]int{1, 2}, [2]int{9, 1}, [2]int{2, 1}, [2]int{0, 0}, 18},
		{chessBoard, upperHalf, map[int]int{9: 36}, [2]int{0, 1}, [2]int{0, 1}, [2]int{9, 1}, [2]int{0, 0}, [2]int{0, 0}, 9},
		{chessBoard, uneven, map[int]int{1: 18, 3: 18}, [2]int{0, 1}, [2]int{0, 1}, [2]int{2, 1}, [2]int{0, 0}, [2]int{1, 0}, 3},
		{chessBoard, sheet(5), map[int]int{0: 18, 2: 18}, [2]int{1, 2}, [2]int{1, 2}, [2]int{1, 1}, [2]int{2, 1}, [2]int{0, 0}, 2},
		{upperHalf, upperHalf, map[int]int{0: 6, 6: 12, 12: 12, 18: 6}, [2]int{1, 6}, [2]int{1, 6}, [2]int{9, 1}, [2]int{6, 1}, [2]int{0, 0}, 18},
		{upperHalf, corners, map[int]int{0: 12, 2: 12, 4: 12}, [2]int{1, 3}, [2]int{1, 3}, [2]int{2, 1}, [2]int{3, 1}, [2]int{0, 1}, 4},
		{uneven, uneven, map[int]int{0: 24, 1: 10, 2: 1, 4: 1}, [2]int{1, 36}, [2]int{2, 3}, [2]int{4, 9}, [2]int{36, 1}, [2]int{0, 0}, 4},
		{uneven, corners, map[int]int{0: 24, 1: 9, 2: 2, 3: 1}, [2]int{0, 1}, [2]int{2, 3}, [2]int{4, 9}, [2]int{0, 0}, [2]int{1, 1}, 3},
		{corners, uneven, map[int]int{0: 24, 1: 9, 2: 2, 3: 1}, [2]int{0, 1}, [2]int{2, 3}, [2]int{4, 9}, [2]int{0, 0}, [2]int{5, 5}, 3},
		{corners, upperHalf, map[int]int{0: 12, 2: 12, 4: 12}, [2]int{0, 1}, [2]int{1, 3}, [2]int{2, 1}, [2]int{0, 0}, [2]int{0, 4}, 4},
		{corners, sheet(3, 1), map[int]int{0: 28, 1: 5, 2: 2, 3: 1}, [2]int{1, 36}, [2]int{7, 9}, [2]int{1, 3}, [2]int{36, 1}, [2]int{5, 5}, 3},
		{diagonal, diagonal, map[int]int{0: 30, 6: 6}, [2]int{1, 6}, [2]int{5, 6}, [2]int{1, 1}, [2]int{6, 1}, [2]int{0, 0}, 6},
		{diagonal, sheet(63), map[int]int{1: 36}, [2]int{0, 1}, [2]int{0, 1}, [2]int{1, 1}, [2]int{0, 0}, [2]int{0, 0}, 1},
		{sheet(7), sheet(33), map[int]int{0: 32, 1: 2, 2: 2}, [2]int{1, 18}, [2]int{8, 9}, [2]int{1, 6}, [2]int{18, 1}, [2]int{1, 0}, 2},
	}
}

func TestChanceFitsChanceApartMeanCommonAndMeanWait(t *testing.T) {
	for _, c := range sharings() {
		fits, one := impl.ChanceFits(c.s, c.stamp)
		apart, two := impl.ChanceApart(c.s, c.stamp)
		mean, three := impl.MeanCommon(c.s, c.stamp)
		if !one || !two || !three || fits != c.fits || apart != c.apart || mean != c.mean {
			t.Errorf("of %v and %v: ChanceFits %v, %v, ChanceApart %v, %v, MeanCommon %v, %v", c.s, c.stamp, fits, one, apart, two, mean, three)
		}
		if wait, ok := impl.MeanWait(c.s, c.stamp); ok != (c.wait != [2]int{}) || wait != c.wait {
			t.Errorf("MeanWait(%v, %v) = %v, %v, not %v", c.s, c.stamp, wait, ok, c.wait)
		}
	}
}

func TestCommonTable(t *testing.T) {
	for _, c := range sharings() {
		var want [37]int
		for common, cells := range c.table {
			want[common] = cells
		}
		if table, ok := impl.CommonTable(c.s, c.stamp); !ok || table != want {
			t.Errorf("CommonTable(%v, %v) = %v, %v, not %v", c.s, c.stamp, table, ok, want)
		}
	}
}

func TestBestCell(t *testing.T) {
	for _, c := range sharings() {
		if best, most, ok := impl.BestCell(c.s, c.stamp); !ok || best != c.best || most != c.most {
			t.Errorf("BestCell(%v, %v) = %v, %d, %v, not %v, %d", c.s, c.stamp, best, most, ok, c.best, c.most)
		}
	}
}

func commonAt(s, stamp impl.Sheet, cell [2]int) int {
	return common(gridOf(s), gridOf(stamp).moved(cell[0], cell[1]))
}

func TestCommonTableIsThatOfGridsAndAddsUpTo36(t *testing.T) {
	for _, stamp := range chanceStamps() {
		for _, s := range append(chanceSheets(), stamp, without(full, stamp), reflected(stamp)) {
			var want [37]int
			for _, cell := range allCells() {
				want[commonAt(s, stamp, cell)]++
			}
			table, ok := impl.CommonTable(s, stamp)
			if !ok || table != want {
				t.Fatalf("CommonTable(%v, %v) = %v, %v, not %v", s, stamp, table, ok, want)
			}
			cells, sum := 0, 0
			for common, at := range table {
				cells += at
				sum += at * common
			}
			mean, ok := impl.MeanCommon(s, stamp)
			if !ok || cells != 36 || mean != ratio(sum, 36) || sum != sizeOf(s)*sizeOf(stamp) {
				t.Fatalf("CommonTable(%v, %v) = %v, and MeanCommon %v, %v", s, stamp, table, mean, ok)
			}
		}
	}
}

func TestAStampFitsWhereTheShrunkSheetIsBlack(t *testing.T) {
	many := map[int]int{}
	for _, stamp := range chanceStamps() {
		for _, s := range append(chanceSheets(), stamp, either(stamp, uneven), without(full, stamp), spreadBy(stamp, sheet(3, 1))) {
			shrunk, one := impl.ShrinkSheet(s, stamp)
			fits, two := impl.ChanceFits(s, stamp)
			size := sizeOf(shrunk)
			if !one || !two || shrunk != shrunkBy(s, stamp) || fits != ratio(size, 36) {
				t.Fatalf("ChanceFits(%v, %v) = %v, %v, not %v", s, stamp, fits, two, ratio(size, 36))
			}
			wait, ok := impl.MeanWait(s, stamp)
			if ok != (size > 0) || !ok && wait != [2]int{} || ok && wait != ratio(36, size) {
				t.Fatalf("MeanWait(%v, %v) = %v, %v, with %d of 36 cells", s, stamp, wait, ok, size)
			}
			many[size]++
			other, _ := impl.OtherOf(s)
			missed, three := impl.ShrinkSheet(other, stamp)
			apart, four := impl.ChanceApart(s, stamp)
			if !three || !four || missed != shrunkBy(without(full, s), stamp) || apart != ratio(sizeOf(missed), 36) {
				t.Fatalf("ChanceApart(%v, %v) = %v, %v, not %v", s, stamp, apart, four, ratio(sizeOf(missed), 36))
			}
		}
	}
	for _, size := range []int{0, 1, 2, 3, 6, 18, 36} {
		if many[size] < 10 {
			t.Errorf("a stamp of the test fits at %d cells just %d times", size, many[size])
		}
	}
}

func TestBestCellIsTheFirstOfThoseWithTheMost(t *testing.T) {
	ties, order := 0, 0
	for _, stamp := range chanceStamps() {
		for _, s := range append(chanceSheets(), stamp, without(full, stamp), either(shiftedTo(stamp, [2]int{4, 3}), shiftedTo(stamp, [2]int{3, 4}))) {
			var want [2]int
			most := -1
			var same [][2]int
			for _, cell := range allCells() {
				switch common := commonAt(s, stamp, cell); {
				case common > most:
					want, most, same = cell, common, [][2]int{cell}
				case common == most:
					same = append(same, cell)
				}
			}
			if best, n, ok := impl.BestCell(s, stamp); !ok || best != want || n != most {
				t.Fatalf("BestCell(%v, %v) = %v, %d, %v, not %v, %d", s, stamp, best, n, ok, want, most)
			}
			if len(same) > 1 {
				ties++
			}
			if slices.MinFunc(same, func(a, b [2]int) int { return slices.Compare(a[:], b[:]) }) != want {
				order++
			}
		}
	}
	if ties < 100 || order < 50 {
		t.Errorf("just %d rows of the test have several best cells, and %d of them another one by column", ties, order)
	}
}

func TestChanceSame(t *testing.T) {
	for _, c := range []struct {
		stamp            impl.Sheet
		one, two, triple [2]int
	}{
		{white, [2]int{1, 1}, [2]int{1, 1}, [2]int{1, 1}}, {full, [2]int{0, 1}, [2]int{1, 1}, [2]int{0, 1}}, {unit, [2]int{0, 1}, [2]int{1, 36}, [2]int{0, 1}}, {holed, [2]int{0, 1}, [2]int{1, 36}, [2]int{0, 1}},
		{chessBoard, [2]int{0, 1}, [2]int{1, 2}, [2]int{0, 1}}, {upperHalf, [2]int{0, 1}, [2]int{1, 6}, [2]int{0, 1}}, {uneven, [2]int{0, 1}, [2]int{1, 36}, [2]int{0, 1}}, {corners, [2]int{0, 1}, [2]int{1, 36}, [2]int{0, 1}},
		{diagonal, [2]int{0, 1}, [2]int{1, 6}, [2]int{0, 1}}, {sheet(63), [2]int{0, 1}, [2]int{1, 6}, [2]int{0, 1}}, {sheet(9), [2]int{0, 1}, [2]int{1, 18}, [2]int{0, 1}}, {sheet(21), [2]int{0, 1}, [2]int{1, 12}, [2]int{0, 1}},
		// Three shifts of these, by 0, 2 and 4 or by 0, 1 and 2 columns or rows, undo one another.
		{sheet(5), [2]int{0, 1}, [2]int{1, 36}, [2]int{1, 648}}, {sheet(1, 0, 1), [2]int{0, 1}, [2]int{1, 36}, [2]int{1, 648}}, {sheet(17), [2]int{0, 1}, [2]int{1, 36}, [2]int{1, 648}},
		{sheet(27), [2]int{0, 1}, [2]int{1, 18}, [2]int{1, 162}}, {sheet(27, 27, 0, 27, 27), [2]int{0, 1}, [2]int{1, 9}, [2]int{4, 81}}, {sheet(45, 0, 45, 0, 45), [2]int{0, 1}, [2]int{1, 6}, [2]int{1, 18}},
	} {
		for n, want := range [][2]int{{1, 1}, c.one, c.two, c.triple} {
			if got, ok := impl.ChanceSame(c.stamp, n); !ok || got != want {
				t.Errorf("ChanceSame(%v, %d) = %v, %v, not %v", c.stamp, n, got, ok, want)
			}
		}
	}
}

// undoneBy tries all lists of n presses, and gives how many of them change nothing.
func undoneBy(stamp impl.Sheet, n int) int {
	masks := masksOf(stamp, allCells())
	count := 0
	var press func(cells uint64, left int)
	press = func(cells uint64, left int) {
		if left == 0 {
			if cells == 0 {
				count++
			}
			return
		}
		for _, mask := range masks {
			press(cells^mask, left-1)
		}
	}
	press(0, n)
	return count
}

func TestChanceSameIsThatOfADirectCount(t *testing.T) {
	three := 0
	for _, stamp := range slices.Concat(chanceStamps(), evenSheets(), slantedLines(), []impl.Sheet{sheet(5), sheet(1, 0, 1), sheet(1, 0, 4), sheet(27, 27, 0, 27, 27), sheet(45, 0, 45, 0, 45), sheet(27, 0, 0, 27)}) {
		for n := range 4 {
			count := undoneBy(stamp, n)
			if got, ok := impl.ChanceSame(stamp, n); !ok || got != ratio(count, listsOf(n)) {
				t.Fatalf("ChanceSame(%v, %d) = %v, %v, not %v", stamp, n, got, ok, ratio(count, listsOf(n)))
			}
			if n == 3 && count > 0 && stamp != white {
				three++
			}
		}
	}
	if three < 10 {
		t.Errorf("three presses of just %d stamps of the test can change nothing", three)
	}
}

func TestASheetIsTheSameAgainWhateverItIs(t *testing.T) {
	for i, stamp := range chanceStamps() {
		for _, s := range []impl.Sheet{white, full, chanceSheets()[i%20], stamp} {
			once, twice := 0, 0
			for _, a := range allCells() {
				pressed, _ := impl.ToggleAt(s, stamp, a)
				if pressed == s {
					once++
				}
				for _, b := range allCells() {
					if again, _ := impl.ToggleAt(pressed, stamp, b); again == s {
						twice++
					}
				}
			}
			one, oneOK := impl.ChanceSame(stamp, 1)
			two, twoOK := impl.ChanceSame(stamp, 2)
			if !oneOK || !twoOK || one != ratio(once, 36) || two != ratio(twice, 36*36) {
				t.Fatalf("ChanceSame(%v) = %v and %v, and toggles of %v leave it at %d and %d lists of cells", stamp, one, two, s, once, twice)
			}
		}
	}
}

func TestChanceSameOfTwoPressesIsTheNumberOfPeriods(t *testing.T) {
	for _, stamp := range sheetsWithPeriods() {
		periods, one := impl.PeriodsOf(stamp)
		got, two := impl.ChanceSame(stamp, 2)
		if !one || !two || len(periods) == 0 || got != ratio(len(periods), 36) {
			t.Fatalf("ChanceSame(%v, 2) = %v, %v, with the periods %v", stamp, got, two, periods)
		}
	}
}

func badCounts() []int {
	return []int{-1, -2, -6, -36, 7, 8, 12, 36, 63, 64, 1 << 32, -1 << 32, math.MaxInt, math.MaxInt - 1, math.MinInt, math.MinInt + 1}
}

func checkNoFraction(t *testing.T, name string, got [2]int, ok bool) {
	t.Helper()
	if ok || got != [2]int{} {
		t.Errorf("%s = %v, %v", name, got, ok)
	}
}

// checkNoPresses asks the functions of n presses, and for a cell, to fail.
func checkNoPresses(t *testing.T, s, stamp impl.Sheet, cell [2]int, n int) {
	t.Helper()
	for _, d := range drawings() {
		got, ok := d.mean(s, stamp, n)
		checkNoFraction(t, "Mean"+d.name, got, ok)
	}
	checkNoChances(t, s, stamp, cell, n)
}

func checkNoChances(t *testing.T, s, stamp impl.Sheet, cell [2]int, n int) {
	t.Helper()
	for _, d := range drawings() {
		if d.chance != nil {
			got, ok := d.chance(s, stamp, cell, n)
			checkNoFraction(t, "Chance"+d.name, got, ok)
		}
	}
}

func checkNothingInCommon(t *testing.T, s, stamp impl.Sheet) {
	t.Helper()
	for name, call := range map[string]fractionCall{"ChanceFits": impl.ChanceFits, "ChanceApart": impl.ChanceApart, "MeanCommon": impl.MeanCommon, "MeanWait": impl.MeanWait} {
		got, ok := call(s, stamp)
		checkNoFraction(t, name, got, ok)
	}
	if table, ok := impl.CommonTable(s, stamp); ok || table != [37]int{} {
		t.Errorf("CommonTable(%v, %v) = %v, %v", s, stamp, table, ok)
	}
	if best, most, ok := impl.BestCell(s, stamp); ok || best != [2]int{} || most != 0 {
		t.Errorf("BestCell(%v, %v) = %v, %d, %v", s, stamp, best, most, ok)
	}
}

func TestInvalidSheetsAndStampsHaveNoChances(t *testing.T) {
	for _, bad := range badSheets() {
		for _, other := range []impl.Sheet{white, full, unit, chessBoard, bad} {
			for _, two := range [][2]impl.Sheet{{bad, other}, {other, bad}} {
				for n := range 7 {
					checkNoPresses(t, two[0], two[1], [2]int{0, 0}, n)
					checkNoPresses(t, two[0], two[1], [2]int{5, 3}, n)
				}
				checkNoPresses(t, two[0], two[1], [2]int{6, 0}, 7)
				checkNothingInCommon(t, two[0], two[1])
			}
		}
		for n := -1; n <= 4; n++ {
			got, ok := impl.ChanceSame(bad, n)
			checkNoFraction(t, "ChanceSame", got, ok)
		}
	}
}

func TestInvalidCellsHaveNoChances(t *testing.T) {
	for _, bad := range badCells() {
		for _, s := range []impl.Sheet{white, full, unit, chessBoard} {
			for _, stamp := range []impl.Sheet{white, full, unit, upperHalf} {
				for n := -1; n <= 7; n++ {
					checkNoChances(t, s, stamp, bad, n)
				}
			}
		}
	}
}

func TestOtherNumbersOfPressesFail(t *testing.T) {
	for _, n := range badCounts() {
		for _, s := range []impl.Sheet{white, full, unit, chessBoard} {
			for _, stamp := range []impl.Sheet{white, full, unit, upperHalf} {
				for _, cell := range at(0, 0, 5, 5, 2, 3) {
					checkNoPresses(t, s, stamp, cell, n)
				}
			}
		}
	}
	for _, n := range append(badCounts(), 4, 5, 6) {
		for _, stamp := range []impl.Sheet{white, full, unit, upperHalf, sheet(5)} {
			got, ok := impl.ChanceSame(stamp, n)
			checkNoFraction(t, "ChanceSame", got, ok)
		}
	}
}

func TestChancesSameResultsAgain(t *testing.T) {
	s, stamp := sheet(3, 1), sheet(3)
	for range 3 {
		toggled, one := impl.ChanceToggled(s, stamp, [2]int{0, 0}, 1)
		inked, two := impl.MeanInked(s, stamp, 1)
		same, three := impl.ChanceSame(sheet(5), 3)
		table, four := impl.CommonTable(s, stamp)
		best, most, five := impl.BestCell(corners, uneven)
		if !one || !two || !three || !four || !five || toggled != [2]int{17, 18} || inked != [2]int{29, 6} || same != [2]int{1, 648} || table != [37]int{31, 4, 1} || best != [2]int{5, 5} || most != 3 {
			t.Errorf("ChanceToggled %v, MeanInked %v, ChanceSame %v, CommonTable %v, BestCell %v, %d", toggled, inked, same, table, best, most)
		}
		table[0] = 99
		impl.MeanWiped(full, full, 6)
		impl.ChanceSame(sheet(-1), 3)
	}
}
