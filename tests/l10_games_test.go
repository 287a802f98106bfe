package tests

import (
	"math"
	"math/rand"
	"slices"
	"testing"

	"loop.example/g01220/impl"
)

// walled gives the sheet with some first rows, and all others full.
func walled(rows ...int) impl.Sheet {
	s := full
	copy(s.Rows[:], rows)
	return s
}

func walledBy(firstRows ...int) []impl.Sheet {
	var all []impl.Sheet
	for _, row := range firstRows {
		all = append(all, walled(row))
	}
	return all
}

// pressMasks gives each different press of a stamp once, as the cells that it makes black.
func pressMasks(stamp impl.Sheet) []uint64 {
	masks := masksOf(stamp, allCells())
	slices.Sort(masks)
	return slices.Compact(masks)
}

func freeMasks(cells uint64, masks []uint64) []uint64 {
	return slices.DeleteFunc(slices.Clone(masks), func(mask uint64) bool { return cells&mask != 0 })
}

func freeBy(s, stamp impl.Sheet) [][2]int {
	var free [][2]int
	for _, cell := range allCells() {
		if common(gridOf(s), gridOf(stamp).moved(cell[0], cell[1])) == 0 {
			free = append(free, cell)
		}
	}
	return free
}

func nextsBy(s, stamp impl.Sheet) []impl.Sheet {
	var nexts []impl.Sheet
	for _, cell := range freeBy(s, stamp) {
		if next := either(s, shiftedTo(stamp, cell)); !slices.Contains(nexts, next) {
			nexts = append(nexts, next)
		}
	}
	slices.SortFunc(nexts, func(a, b impl.Sheet) int { return slices.Compare(a.Rows[:], b.Rows[:]) })
	return nexts
}

// A played sheet has what comes of all games on it.
type played struct {
	last, miss          bool
	number, long, short int
}

// playedBy plays all games, one press behind the other, whether or not the same sheet was there before.
func playedBy(cells uint64, masks []uint64) played {
	free := freeMasks(cells, masks)
	if len(free) == 0 {
		return played{miss: true}
	}
	all := played{short: math.MaxInt}
	taken := map[int]bool{}
	for _, mask := range free {
		next := playedBy(cells|mask, masks)
		taken[next.number] = true
		all.last = all.last || !next.last
		all.miss = all.miss || !next.miss
		all.long = max(all.long, 1+next.long)
		all.short = min(all.short, 1+next.short)
	}
	for taken[all.number] {
		all.number++
	}
	return all
}

func winningBy(s, stamp impl.Sheet) [][2]int {
	var winning [][2]int
	for _, cell := range freeBy(s, stamp) {
		if !playedBy(maskOf(s)|maskOf(shiftedTo(stamp, cell)), pressMasks(stamp)).last {
			winning = append(winning, cell)
		}
	}
	return winning
}

// partyBy gives the sheet behind a party, and the number of presses.
func partyBy(s, stamp impl.Sheet, party [][2]int) (impl.Sheet, int) {
	for n, cell := range party {
		if !slices.Contains(freeBy(s, stamp), cell) {
			return s, n
		}
		s = either(s, shiftedTo(stamp, cell))
	}
	return s, len(party)
}

func shiftedHalf(s impl.Sheet) impl.Sheet { return shiftedTo(s, [2]int{3, 3}) }

// A board is a sheet with a stamp to press on it.
type board struct{ s, stamp impl.Sheet }

// gameStamps are of size 1, of size 36, around the edges, kept by some shift, and others.
func gameStamps() []impl.Sheet {
	others := []impl.Sheet{upperHalf, corners, sheet(7, 7, 7), sheet(15, 15), sheet(4, 2, 6), sheet(4, 5, 2), sheet(2, 5, 3), sheet(33, 0, 0, 0, 0, 2), sheet(9, 0, 0, 18), sheet(0, 63, 0, 63, 0, 63)}
	return slices.DeleteFunc(slices.Concat(edgeStamps(), periodicStamps(), others), func(s impl.Sheet) bool { return s == white })
}

// boardsWith blackens cells of each stamp's white sheet, by a fixed series of numbers, until just as many presses are free as told, or less; a cell is blackened together with the one 3 columns and 3 rows on if that is told.
func boardsWith(presses []int, mirrored bool) []board {
	source := rand.New(rand.NewSource(10))
	var all []board
	for _, stamp := range gameStamps() {
		masks := pressMasks(stamp)
		for _, most := range presses {
			var cells uint64
			for _, i := range source.Perm(36) {
				if len(freeMasks(cells, masks)) <= most {
					break
				}
				cells |= 1 << i
				if mirrored {
					cells = cells | maskShifted(1<<i, [2]int{3, 3})
				}
			}
			all = append(all, board{sheetOfMask(cells), stamp})
		}
	}
	return all
}

// boards have at most MaxFree nexts.
func boards() []board {
	return append(boardsWith([]int{0, 1, 2, 3, 4, 5, 6, 7, 7, 7, 7, 7}, false), boardsWith([]int{0, 2, 4, 6, 6, 7}, true)...)
}

// wideBoards can have more nexts than MaxFree.
func wideBoards() []board {
	all := append(boardsWith([]int{8, 8, 8, 9, 12, 20, 36}, false), boardsWith([]int{8, 10, 18, 36}, true)...)
	for _, stamp := range gameStamps() {
		all = append(all, board{white, stamp}, board{full, stamp}, board{stamp, stamp}, board{uneven, stamp}, board{chessBoard, stamp})
	}
	return all
}

func TestLimitsOfGames(t *testing.T) {
	if impl.MaxFree != 7 || impl.MaxParty != 40 {
		t.Error("MaxFree and MaxParty", impl.MaxFree, impl.MaxParty)
	}
}

// A game row of a test has all that the functions tell of a sheet and a stamp.
type gameRow struct {
	s, stamp impl.Sheet
	free     [][2]int
	nexts    []impl.Sheet
	played   played
	winning  [][2]int
}

func gameRows() []gameRow {
	two, kept, all := sheet(3), sheet(9), allCells()
	odd := slices.DeleteFunc(allCells(), func(cell [2]int) bool { return (cell[0]+cell[1])%2 == 0 })
	row := at(0, 0, 1, 0, 2, 0, 3, 0, 4, 0, 5, 0)
	return []gameRow{
		{full, unit, nil, nil, played{false, true, 0, 0, 0}, nil},
		{full, full, nil, nil, played{false, true, 0, 0, 0}, nil},
		{full, sheet(0, 0, 8), nil, nil, played{false, true, 0, 0, 0}, nil},
		{unit, full, nil, nil, played{false, true, 0, 0, 0}, nil},
		{unit, holed, at(0, 0), []impl.Sheet{full}, played{true, false, 1, 1, 1}, at(0, 0)},
		{chessBoard, two, nil, nil, played{false, true, 0, 0, 0}, nil},
		{white, full, all, []impl.Sheet{full}, played{true, false, 1, 1, 1}, all},
		{holed, unit, at(0, 0), []impl.Sheet{full}, played{true, false, 1, 1, 1}, at(0, 0)},
		{holed, sheet(0, 0, 8), at(3, 4), []impl.Sheet{full}, played{true, false, 1, 1, 1}, at(3, 4)},
		{walled(60), two, at(0, 0), []impl.Sheet{full}, played{true, false, 1, 1, 1}, at(0, 0)},
		{walled(60), unit, at(0, 0, 1, 0), walledBy(61, 62), played{false, true, 0, 2, 2}, nil},
		{walled(30), two, at(5, 0), []impl.Sheet{full}, played{true, false, 1, 1, 1}, at(5, 0)},
		{walled(30), sheet(33), at(0, 0), []impl.Sheet{full}, played{true, false, 1, 1, 1}, at(0, 0)},
		{sheet(30, 63, 63, 63, 63, 30), corners, at(0, 0), []impl.Sheet{full}, played{true, false, 1, 1, 1}, at(0, 0)},
		{sheet(30, 63, 63, 63, 63, 30), sheet(3, 3), at(5, 5), []impl.Sheet{full}, played{true, false, 1, 1, 1}, at(5, 5)},
		{sheet(30, 63, 63, 63, 63, 30), two, at(5, 0, 5, 5), []impl.Sheet{sheet(30, 63, 63, 63, 63, 63), sheet(63, 63, 63, 63, 63, 30)}, played{false, true, 0, 2, 2}, nil},
		// A row of 3, 4, 5 and 6 white cells, the last one being a circle.
		{walled(56), two, at(0, 0, 1, 0), walledBy(59, 62), played{true, false, 1, 1, 1}, at(0, 0, 1, 0)},
		{walled(48), two, at(0, 0, 1, 0, 2, 0), walledBy(51, 54, 60), played{true, true, 2, 2, 1}, at(1, 0)},
		{walled(32), two, at(0, 0, 1, 0, 2, 0, 3, 0), walledBy(35, 38, 44, 56), played{false, true, 0, 2, 2}, nil},
		{walled(0), two, row, walledBy(3, 6, 12, 24, 33, 48), played{false, false, 0, 3, 2}, nil},
		{walled(48, 63, 60), two, at(0, 0, 1, 0, 2, 0, 0, 2), []impl.Sheet{walled(48), walled(51, 63, 60), walled(54, 63, 60), walled(60, 63, 60)}, played{true, true, 3, 3, 2}, at(0, 0, 2, 0)},
		{sheet(62, 62, 62, 62, 63, 63), sheet(1, 1), at(0, 0, 0, 1, 0, 2), []impl.Sheet{sheet(62, 62, 63, 63, 63, 63), sheet(62, 63, 63, 62, 63, 63), sheet(63, 63, 62, 62, 63, 63)}, played{true, true, 2, 2, 1}, at(0, 1)},
		// Just MaxFree nexts, of as many and of more cells.
		{walled(0, 62), unit, slices.Concat(row, at(0, 1)), []impl.Sheet{walled(0), walled(1, 62), walled(2, 62), walled(4, 62), walled(8, 62), walled(16, 62), walled(32, 62)}, played{true, false, 1, 7, 7}, slices.Concat(row, at(0, 1))},
		{walled(0, 60), two, slices.Concat(row, at(0, 1)), []impl.Sheet{walled(0), walled(3, 60), walled(6, 60), walled(12, 60), walled(24, 60), walled(33, 60), walled(48, 60)}, played{true, true, 1, 4, 3}, at(0, 1)},
		{walled(54, 0, 0), kept, slices.Concat(at(0, 0, 3, 0), all[6:18]), []impl.Sheet{walled(54, 0, 9), walled(54, 0, 18), walled(54, 0, 36), walled(54, 9, 0), walled(54, 18, 0), walled(54, 36, 0), walled(63, 0, 0)}, played{true, false, 1, 7, 7}, slices.Concat(at(0, 0, 3, 0), all[6:18])},
		{sheet(32, 7, 8, 33, 9, 10), sheet(4, 2, 6), at(4, 0, 1, 1, 0, 2, 3, 2, 5, 4, 2, 5, 3, 5), []impl.Sheet{sheet(32, 7, 12, 35, 15, 10), sheet(32, 7, 40, 49, 57, 10), sheet(32, 15, 12, 45, 9, 10),
			sheet(33, 39, 41, 33, 9, 10), sheet(35, 7, 8, 33, 11, 11), sheet(40, 31, 8, 33, 9, 26), sheet(48, 55, 8, 33, 9, 42)}, played{true, true, 4, 4, 2}, at(0, 2, 2, 5)},
		// Several cells lead to the same next.
		{walled(0), kept, row, walledBy(9, 18, 36), played{true, false, 1, 3, 3}, row},
		{walled(9), kept, at(1, 0, 2, 0, 4, 0, 5, 0), walledBy(27, 45), played{false, true, 0, 2, 2}, nil},
		{walled(0, 63, 54), kept, slices.Concat(row, at(0, 2, 3, 2)), []impl.Sheet{walled(0), walled(9, 63, 54), walled(18, 63, 54), walled(36, 63, 54)}, played{false, true, 0, 4, 4}, nil},
		{white, chessBoard, all, []impl.Sheet{chessBoard, sheet(42, 21, 42, 21, 42, 21)}, played{false, true, 0, 2, 2}, nil},
		{chessBoard, chessBoard, odd, []impl.Sheet{full}, played{true, false, 1, 1, 1}, odd},
		{white, sheet(63), all, []impl.Sheet{sheet(0, 0, 0, 0, 0, 63), sheet(0, 0, 0, 0, 63), sheet(0, 0, 0, 63), sheet(0, 0, 63), sheet(0, 63), sheet(63)}, played{false, true, 0, 6, 6}, nil},
		{white, sheet(63, 63), all, []impl.Sheet{sheet(0, 0, 0, 0, 63, 63), sheet(0, 0, 0, 63, 63), sheet(0, 0, 63, 63), sheet(0, 63, 63), sheet(63, 0, 0, 0, 0, 63), sheet(63, 63)}, played{false, false, 0, 3, 2}, nil},
		{white, upperHalf, all, []impl.Sheet{sheet(0, 0, 0, 63, 63, 63), sheet(0, 0, 63, 63, 63), sheet(0, 63, 63, 63), sheet(63, 0, 0, 0, 63, 63), sheet(63, 63, 0, 0, 0, 63), upperHalf}, played{false, true, 0, 2, 2}, nil},
		{upperHalf, sheet(63, 63), all[18:30], []impl.Sheet{sheet(63, 63, 63, 0, 63, 63), sheet(63, 63, 63, 63, 63, 0)}, played{true, false, 1, 1, 1}, all[18:30]},
	}
}

func TestFreeCellsAndNextsOf(t *testing.T) {
	for _, c := range gameRows() {
		if free, ok := impl.FreeCells(c.s, c.stamp); !ok || !slices.Equal(free, c.free) {
			t.Errorf("FreeCells(%v, %v) = %v, %v, not %v", c.s, c.stamp, free, ok, c.free)
		}
		if nexts, ok := impl.NextsOf(c.s, c.stamp); !ok || !slices.Equal(nexts, c.nexts) {
			t.Errorf("NextsOf(%v, %v) = %v, %v, not %v", c.s, c.stamp, nexts, ok, c.nexts)
		}
	}
}

// toldOf gives what the functions tell of all games on a sheet, and whether none of them fails.
func toldOf(s, stamp impl.Sheet) (played, bool) {
	last, one := impl.LastWins(s, stamp)
	miss, two := impl.MissWins(s, stamp)
	number, three := impl.NumberOf(s, stamp)
	long, four := impl.LongestGame(s, stamp)
	short, five := impl.ShortestGame(s, stamp)
	return played{last, miss, number, long, short}, one && two && three && four && five
}

func checkPlayed(t *testing.T, s, stamp impl.Sheet, want played) {
	t.Helper()
	if got, ok := toldOf(s, stamp); !ok || got != want {
		t.Errorf("the games on %v with %v have the outcomes, the number and the lengths %v, %v, not %v", s, stamp, got, ok, want)
	}
}

func TestGames(t *testing.T) {
	for _, c := range gameRows() {
		checkPlayed(t, c.s, c.stamp, c.played)
		if winning, ok := impl.WinningCells(c.s, c.stamp); !ok || !slices.Equal(winning, c.winning) {
			t.Errorf("WinningCells(%v, %v) = %v, %v, not %v", c.s, c.stamp, winning, ok, c.winning)
		}
	}
}

func TestFreeCellsAndNextsAreThoseOfGrids(t *testing.T) {
	nextsSeen, fewer, byColumn := map[int]int{}, 0, 0
	for _, b := range append(boards(), wideBoards()...) {
		free, one := impl.FreeCells(b.s, b.stamp)
		if want := freeBy(b.s, b.stamp); !one || !slices.Equal(free, want) {
			t.Fatalf("FreeCells(%v, %v) = %v, %v, not %v", b.s, b.stamp, free, one, want)
		}
		nexts, two := impl.NextsOf(b.s, b.stamp)
		if want := nextsBy(b.s, b.stamp); !two || !slices.Equal(nexts, want) {
			t.Fatalf("NextsOf(%v, %v) = %v, %v, not %v", b.s, b.stamp, nexts, two, want)
		}
		nextsSeen[len(nexts)]++
		if len(nexts) < len(free) {
			fewer++
		}
		if !slices.IsSortedFunc(free, func(a, b [2]int) int { return slices.Compare(a[:], b[:]) }) {
			byColumn++
		}
	}
	for _, n := range []int{0, 1, 2, 3, 4, 5, 6, 7, 8, 36} {
		if nextsSeen[n] < 30 {
			t.Errorf("just %d boards of the test have %d nexts", nextsSeen[n], n)
		}
	}
	if fewer < 100 || byColumn < 100 {
		t.Errorf("just %d boards of the test have fewer nexts than free cells, and %d other cells first by column", fewer, byColumn)
	}
}

func TestGamesAreThoseOfAPlainSearch(t *testing.T) {
	outcomes, numbers, several := map[[2]bool]int{}, map[int]int{}, 0
	for _, b := range boards() {
		want := playedBy(maskOf(b.s), pressMasks(b.stamp))
		checkPlayed(t, b.s, b.stamp, want)
		winning, ok := impl.WinningCells(b.s, b.stamp)
		if cells := winningBy(b.s, b.stamp); !ok || !slices.Equal(winning, cells) {
			t.Fatalf("WinningCells(%v, %v) = %v, %v, not %v", b.s, b.stamp, winning, ok, cells)
		}
		if want.long > 1 {
			outcomes[[2]bool{want.last, want.miss}]++
		}
		numbers[want.number]++
		if want.short < want.long && want.short > 1 {
			several++
		}
	}
	// Who is to press wins and loses, to last and to miss, in games of several presses.
	for _, outcome := range [][2]bool{{false, false}, {false, true}, {true, false}, {true, true}} {
		if outcomes[outcome] < 5 {
			t.Errorf("just %d boards of the test have the outcomes %v", outcomes[outcome], outcome)
		}
	}
	for _, number := range []int{0, 1, 2, 3} {
		if numbers[number] < 20 {
			t.Errorf("just %d boards of the test have the number %d", numbers[number], number)
		}
	}
	if several < 20 {
		t.Errorf("just %d boards of the test have games of several lengths", several)
	}
}

func TestWhoWinsHasACellBehindWhichTheOtherOneLoses(t *testing.T) {
	won, lost := 0, 0
	for _, b := range boards() {
		told, one := toldOf(b.s, b.stamp)
		winning, two := impl.WinningCells(b.s, b.stamp)
		if !one || !two || told.last != (len(winning) > 0) || told.last != (told.number != 0) || told.short > told.long || told.short < 0 {
			t.Fatalf("the games on %v with %v have the outcomes, the number and the lengths %v, %v, and WinningCells %v, %v", b.s, b.stamp, told, one, winning, two)
		}
		for _, cell := range freeBy(b.s, b.stamp) {
			next := either(b.s, shiftedTo(b.stamp, cell))
			other, ok := impl.LastWins(next, b.stamp)
			if !ok || other == slices.Contains(winning, cell) {
				t.Fatalf("LastWins(%v, %v) = %v, %v, behind a press at %v, with WinningCells %v", next, b.stamp, other, ok, cell, winning)
			}
			if other {
				lost++
			} else {
				won++
			}
		}
	}
	if won < 500 || lost < 500 {
		t.Errorf("just %d presses of the test win, and %d lose", won, lost)
	}
}

// The number, the outcomes and the lengths of a sheet follow from those of its nexts.
func TestGamesGoOnWithTheNexts(t *testing.T) {
	for _, b := range boards() {
		nexts, ok := impl.NextsOf(b.s, b.stamp)
		if !ok || len(nexts) == 0 {
			continue
		}
		want, taken := played{short: math.MaxInt}, map[int]bool{}
		for _, next := range nexts {
			told, ok := toldOf(next, b.stamp)
			if !ok {
				t.Fatalf("the games on %v with %v are not told", next, b.stamp)
			}
			taken[told.number] = true
			want = played{want.last || !told.last, want.miss || !told.miss, 0, max(want.long, 1+told.long), min(want.short, 1+told.short)}
		}
		for taken[want.number] {
			want.number++
		}
		checkPlayed(t, b.s, b.stamp, want)
	}
}

// checkNoGame asks the functions that play games to fail.
func checkNoGame(t *testing.T, s, stamp impl.Sheet) {
	t.Helper()
	for name, call := range map[string]func(impl.Sheet, impl.Sheet) (bool, bool){"LastWins": impl.LastWins, "MissWins": impl.MissWins} {
		if wins, ok := call(s, stamp); ok || wins {
			t.Errorf("%s(%v, %v) = %v, %v", name, s, stamp, wins, ok)
		}
	}
	for name, call := range map[string]func(impl.Sheet, impl.Sheet) (int, bool){"NumberOf": impl.NumberOf, "LongestGame": impl.LongestGame, "ShortestGame": impl.ShortestGame} {
		checkNoNumber(t, name, call, s, stamp)
	}
	checkNoCells(t, "WinningCells", impl.WinningCells, s, stamp)
}

// checkNotPressed asks also those functions to fail that take any number of nexts.
func checkNotPressed(t *testing.T, s, stamp impl.Sheet) {
	t.Helper()
	checkNoGame(t, s, stamp)
	checkNoCells(t, "FreeCells", impl.FreeCells, s, stamp)
	if nexts, ok := impl.NextsOf(s, stamp); ok || len(nexts) != 0 {
		t.Errorf("NextsOf(%v, %v) = %v, %v", s, stamp, nexts, ok)
	}
	if wins, ok := impl.MirrorWins(s, stamp); ok || wins {
		t.Errorf("MirrorWins(%v, %v) = %v, %v", s, stamp, wins, ok)
	}
	for _, party := range [][][2]int{nil, at(0, 0), at(0, 0, 3, 3), at(6, 0), allCells()} {
		checkNoParty(t, s, stamp, party)
	}
}

func checkNoParty(t *testing.T, s, stamp impl.Sheet, party [][2]int) {
	t.Helper()
	if last, n, ok := impl.PlayParty(s, stamp, party); ok || n != 0 || last != white {
		t.Errorf("PlayParty(%v, %v, %v) = %v, %d, %v", s, stamp, party, last, n, ok)
	}
}

func TestGamesAreAskedForAtMostMaxFreeNexts(t *testing.T) {
	for _, c := range []struct {
		s, stamp impl.Sheet
		free     int
		nexts    int
	}{
		{walled(0, 60), unit, 8, 8}, {walled(0, 56), sheet(3), 8, 8}, {walled(0, 0, 36), sheet(9), 16, 8}, {white, unit, 36, 36}, {white, holed, 36, 36}, {white, sheet(3), 36, 36}, {white, sheet(9), 36, 18}, {sheet(1), uneven, 32, 32},
	} {
		checkNoGame(t, c.s, c.stamp)
		free, one := impl.FreeCells(c.s, c.stamp)
		nexts, two := impl.NextsOf(c.s, c.stamp)
		last, n, three := impl.PlayParty(c.s, c.stamp, free[:min(len(free), 1)])
		if !one || !two || !three || len(free) != c.free || len(nexts) != c.nexts || n != 1 || last != either(c.s, shiftedTo(c.stamp, free[0])) {
			t.Errorf("of %v and %v: FreeCells %v, %v, NextsOf %v, %v, PlayParty %v, %d, %v", c.s, c.stamp, free, one, nexts, two, last, n, three)
		}
		if _, ok := impl.MirrorWins(c.s, c.stamp); !ok {
			t.Errorf("MirrorWins(%v, %v) fails", c.s, c.stamp)
		}
	}
	asked, not := 0, 0
	for _, b := range append(wideBoards(), boards()...) {
		if len(nextsBy(b.s, b.stamp)) <= 7 {
			checkPlayed(t, b.s, b.stamp, playedBy(maskOf(b.s), pressMasks(b.stamp)))
			asked++
			continue
		}
		checkNoGame(t, b.s, b.stamp)
		not++
	}
	if asked < 500 || not < 200 {
		t.Errorf("games are asked for %d boards of the test, and not for %d", asked, not)
	}
}

func TestPlayParty(t *testing.T) {
	two := sheet(3)
	for _, c := range []struct {
		s, stamp impl.Sheet
		party    [][2]int
		last     impl.Sheet
		n        int
	}{
		{white, unit, nil, white, 0}, {full, unit, nil, full, 0}, {uneven, full, [][2]int{}, uneven, 0}, {full, unit, at(0, 0), full, 0}, {full, full, at(0, 0, 1, 1), full, 0},
		{white, full, at(3, 4), full, 1}, {white, full, at(3, 4, 0, 0), full, 1}, {holed, unit, at(0, 0), full, 1}, {holed, unit, at(1, 0, 0, 0), holed, 0}, {unit, full, at(0, 0), unit, 0}, {unit, holed, at(0, 0), full, 1},
		{walled(56), two, at(0, 0, 1, 0), walled(59), 1}, {walled(56), two, at(1, 0, 0, 0), walled(62), 1}, {walled(48), two, at(0, 0, 2, 0), full, 2}, {walled(48), two, at(1, 0, 3, 0), walled(54), 1},
		{white, two, at(0, 0, 2, 0, 4, 0), sheet(63), 3}, {white, two, at(5, 0, 1, 0, 3, 0), sheet(63), 3}, {white, sheet(3, 3), at(5, 5, 1, 1), sheet(33, 6, 6, 0, 0, 33), 2},
		{white, sheet(9), at(0, 0, 4, 0, 2, 0, 3, 0), sheet(63), 3}, {white, uneven, at(0, 0, 0, 2, 0, 4), sheet(11, 1, 11, 1, 11, 1), 3},
		// The same cell twice, as the second and as the last one.
		{white, unit, at(2, 1, 2, 1), sheet(0, 4), 1}, {white, unit, at(2, 1, 2, 1, 0, 0), sheet(0, 4), 1}, {white, unit, at(2, 1, 0, 0, 5, 5, 2, 1), sheet(1, 4, 0, 0, 0, 32), 3},
		// One that is not free, or not valid, as the first, the middle and the last one.
		{unit, unit, at(0, 0, 1, 0, 2, 0), unit, 0}, {unit, unit, at(1, 0, 0, 0, 2, 0), sheet(3), 1}, {unit, unit, at(1, 0, 2, 0, 0, 0), sheet(7), 2},
		{unit, unit, at(6, 0, 1, 0, 2, 0), unit, 0}, {unit, unit, at(1, 0, 0, -1, 2, 0), sheet(3), 1}, {unit, unit, at(1, 0, 2, 0, 3, 6), sheet(7), 2}, {white, two, at(-1, 0, 2, 2), white, 0},
		{sheet(30, 63, 63, 63, 63, 30), two, at(5, 5, 5, 0), full, 2}, {sheet(30, 63, 63, 63, 63, 30), two, at(-1, 5, 5, 0), sheet(30, 63, 63, 63, 63, 30), 0},
	} {
		if last, n, ok := impl.PlayParty(c.s, c.stamp, c.party); !ok || last != c.last || n != c.n {
			t.Errorf("PlayParty(%v, %v, %v) = %v, %d, %v, not %v, %d", c.s, c.stamp, c.party, last, n, ok, c.last, c.n)
		}
	}
}

func TestPartiesStopAtInvalidCells(t *testing.T) {
	for _, bad := range badCells() {
		for _, c := range []struct {
			party [][2]int
			last  impl.Sheet
			n     int
		}{
			{[][2]int{bad}, white, 0}, {[][2]int{bad, {0, 0}, {2, 0}}, white, 0}, {[][2]int{{0, 0}, bad, {2, 0}}, sheet(3), 1}, {[][2]int{{0, 0}, {2, 0}, bad}, sheet(15), 2}, {[][2]int{bad, bad}, white, 0}, {[][2]int{{5, 5}, bad, bad}, sheet(0, 0, 0, 0, 0, 33), 1},
		} {
			if last, n, ok := impl.PlayParty(white, sheet(3), c.party); !ok || last != c.last || n != c.n {
				t.Errorf("PlayParty of %v = %v, %d, %v, not %v, %d", c.party, last, n, ok, c.last, c.n)
			}
		}
	}
}

func TestPartiesHaveAtMostMaxPartyCells(t *testing.T) {
	all := allCells()
	for _, more := range [][][2]int{at(0, 0, 0, 0, 5, 5, 3, 3), at(6, 0, -1, 0, 0, math.MaxInt, math.MinInt, 0)} {
		party := slices.Concat(all, more)
		if last, n, ok := impl.PlayParty(white, unit, party); !ok || last != full || n != 36 {
			t.Errorf("PlayParty of %d cells = %v, %d, %v", len(party), last, n, ok)
		}
		checkNoParty(t, white, unit, append(party, [2]int{0, 0}))
		checkNoParty(t, white, unit, append(party, [2]int{9, 9}))
	}
	for _, first := range at(0, 0, 1, 0, 5, 5, 6, 6, -1, 0) {
		party := slices.Repeat([][2]int{first}, 40)
		want, many := partyBy(unit, sheet(3), party)
		if last, n, ok := impl.PlayParty(unit, sheet(3), party); !ok || last != want || n != many {
			t.Errorf("PlayParty of %v = %v, %d, %v, not %v, %d", party, last, n, ok, want, many)
		}
		for _, longer := range []int{41, 42, 80, 1000} {
			for _, b := range []board{{unit, sheet(3)}, {full, unit}, {white, full}, {white, unit}} {
				checkNoParty(t, b.s, b.stamp, slices.Repeat([][2]int{first}, longer))
			}
		}
	}
	// The last cell of a party of MaxParty is pressed where one more would be too many.
	far := append(slices.Repeat(at(3, 3), 39), [2]int{0, 0})
	if last, n, ok := impl.PlayParty(white, unit, far); !ok || last != oneCell([2]int{3, 3}) || n != 1 {
		t.Errorf("PlayParty of %v = %v, %d, %v", far, last, n, ok)
	}
}

func TestPartiesAreThoseOfGrids(t *testing.T) {
	source := rand.New(rand.NewSource(11))
	pressed := map[int]int{}
	for _, b := range append(boards(), wideBoards()...) {
		free := freeBy(b.s, b.stamp)
		for k := range 4 {
			var party [][2]int
			for range source.Intn(8) {
				cell := [2]int{source.Intn(6), source.Intn(6)}
				if k > 0 && len(free) > 0 {
					cell = free[source.Intn(len(free))]
				}
				if k == 3 && source.Intn(4) == 0 {
					cell[source.Intn(2)] += 6
				}
				party = append(party, cell)
			}
			want, many := partyBy(b.s, b.stamp, party)
			last, n, ok := impl.PlayParty(b.s, b.stamp, party)
			if !ok || last != want || n != many {
				t.Fatalf("PlayParty(%v, %v, %v) = %v, %d, %v, not %v, %d", b.s, b.stamp, party, last, n, ok, want, many)
			}
			pressed[n]++
		}
	}
	for n := range 5 {
		if pressed[n] < 30 {
			t.Errorf("just %d parties of the test have %d presses", pressed[n], n)
		}
	}
}

// Who takes the first free cell each time comes to a sheet without free cells, behind as many presses as a game can have.
func TestPartiesOfFreeCellsAreGames(t *testing.T) {
	for _, b := range append(boards(), wideBoards()...) {
		var party [][2]int
		last := b.s
		for free := freeBy(b.s, b.stamp); len(free) > 0; free = freeBy(last, b.stamp) {
			party = append(party, free[len(party)%len(free)])
			var n int
			var ok bool
			if last, n, ok = impl.PlayParty(b.s, b.stamp, party); !ok || n != len(party) {
				t.Fatalf("PlayParty(%v, %v, %v) = %v, %d, %v", b.s, b.stamp, party, last, n, ok)
			}
		}
		free, ok := impl.FreeCells(last, b.stamp)
		if !ok || len(free) != 0 {
			t.Fatalf("FreeCells(%v, %v) = %v, %v", last, b.stamp, free, ok)
		}
		long, one := impl.LongestGame(b.s, b.stamp)
		short, two := impl.ShortestGame(b.s, b.stamp)
		if one != two || one && (len(party) > long || len(party) < short) {
			t.Fatalf("of %v and %v: LongestGame %d, %v, ShortestGame %d, %v, and a game of %d presses", b.s, b.stamp, long, one, short, two, len(party))
		}
	}
}

func TestMirrorCell(t *testing.T) {
	for _, c := range [][2][2]int{{{0, 0}, {3, 3}}, {{1, 2}, {4, 5}}, {{2, 2}, {5, 5}}, {{3, 0}, {0, 3}}, {{3, 2}, {0, 5}}, {{0, 3}, {3, 0}}, {{2, 3}, {5, 0}}, {{3, 3}, {0, 0}}, {{4, 1}, {1, 4}}, {{1, 5}, {4, 2}}, {{5, 0}, {2, 3}}, {{0, 5}, {3, 2}}, {{5, 5}, {2, 2}}} {
		for _, stamp := range gameStamps() {
			if got, ok := impl.MirrorCell(stamp, c[0]); !ok || got != c[1] {
				t.Errorf("MirrorCell(%v, %v) = %v, %v, not %v", stamp, c[0], got, ok, c[1])
			}
		}
	}
}

func TestAPressAtTheMirrorCellIsThatShifted(t *testing.T) {
	for _, stamp := range gameStamps() {
		for _, cell := range allCells() {
			mirror, one := impl.MirrorCell(stamp, cell)
			back, two := impl.MirrorCell(stamp, mirror)
			if !one || !two || back != cell || mirror == cell {
				t.Fatalf("MirrorCell(%v, %v) = %v, %v, and then %v, %v", stamp, cell, mirror, one, back, two)
			}
			if shiftedTo(stamp, mirror) != shiftedHalf(shiftedTo(stamp, cell)) {
				t.Fatalf("a press of %v at %v is not that at %v, shifted", stamp, mirror, cell)
			}
		}
	}
}

func TestMirrorWins(t *testing.T) {
	for _, c := range []struct {
		s, stamp impl.Sheet
		want     bool
	}{
		{white, unit, true}, {full, unit, true}, {unit, unit, false}, {holed, unit, false}, {uneven, unit, false}, {sheet(1, 0, 0, 8), unit, true}, {sheet(1, 0, 0, 1), unit, false}, {sheet(9), unit, false}, {sheet(9, 0, 0, 9), unit, true}, {sheet(0, 0, 32, 0, 0, 4), unit, true},
		{white, full, false}, {full, full, false}, {white, holed, false}, {full, holed, false}, {white, sheet(3), true}, {full, sheet(3), true}, {unit, sheet(3), false}, {walled(0), sheet(3), false}, {sheet(0, 63, 63, 0, 63, 63), sheet(3), true}, {sheet(63, 0, 0, 63), sheet(3), true},
		{white, sheet(9), true}, {white, sheet(1, 0, 0, 1), true}, {white, sheet(1, 0, 0, 8), false}, {white, sheet(0, 2, 0, 0, 16), false}, {white, sheet(0, 2, 0, 0, 32), true}, {white, sheet(9, 0, 0, 9), false}, {sheet(1, 0, 0, 8), sheet(1, 0, 0, 8), false}, {white, sheet(1, 0, 0, 4), true},
		{white, sheet(63), true}, {white, sheet(63, 63), true}, {white, sheet(63, 63, 63), true}, {white, sheet(63, 63, 63, 1), false}, {white, sheet(1, 1, 1, 1, 1, 1), true}, {white, sheet(7, 7, 7), true}, {white, sheet(15, 15), true}, {white, sheet(15, 15, 15, 15), false},
		{chessBoard, unit, true}, {white, chessBoard, false}, {chessBoard, chessBoard, false}, {upperHalf, unit, false}, {sheet(7, 7, 7, 56, 56, 56), unit, true}, {diagonal, unit, true}, {white, diagonal, false}, {white, corners, true}, {corners, unit, false}, {white, uneven, true}, {sheet(11, 1, 0, 25, 8), uneven, true}, {sheet(11, 1, 0, 11, 1), uneven, false},
	} {
		if got, ok := impl.MirrorWins(c.s, c.stamp); !ok || got != c.want {
			t.Errorf("MirrorWins(%v, %v) = %v, %v, not %v", c.s, c.stamp, got, ok, c.want)
		}
	}
}

func mirrorWinsBy(s, stamp impl.Sheet) bool {
	for _, cell := range allCells() {
		press := shiftedTo(stamp, cell)
		if common(gridOf(press), gridOf(shiftedHalf(press))) > 0 {
			return false
		}
	}
	return s == shiftedHalf(s)
}

func TestAMirroredSheetIsLost(t *testing.T) {
	lost, several, apart, same := 0, 0, 0, 0
	for _, b := range append(boards(), wideBoards()...) {
		want := mirrorWinsBy(b.s, b.stamp)
		if mirrored, ok := impl.MirrorWins(b.s, b.stamp); !ok || mirrored != want {
			t.Fatalf("MirrorWins(%v, %v) = %v, %v, not %v", b.s, b.stamp, mirrored, ok, want)
		}
		last, ok := impl.LastWins(b.s, b.stamp)
		switch {
		case want && last:
			t.Fatalf("LastWins(%v, %v) = %v, %v, and MirrorWins", b.s, b.stamp, last, ok)
		case want && ok:
			lost++
			if len(freeBy(b.s, b.stamp)) > 0 {
				several++
			}
		case last && b.s == shiftedHalf(b.s):
			same++
		case last && mirrorWinsBy(white, b.stamp):
			apart++
		}
	}
	// One of both conditions alone does not do.
	if lost < 100 || several < 50 || same < 10 || apart < 100 {
		t.Errorf("just %d mirrored boards of the test are lost, %d of them with free cells; %d are won that are only the same shifted, and %d with presses that are only apart", lost, several, same, apart)
	}
}

// The player who is not to press can always press at the MirrorCell of the other one's last press, and so is never the first who cannot press.
func TestThePressAtTheMirrorCellIsFree(t *testing.T) {
	source := rand.New(rand.NewSource(12))
	replies := 0
	for _, b := range append(boards(), wideBoards()...) {
		if mirrored, ok := impl.MirrorWins(b.s, b.stamp); !ok || !mirrored {
			continue
		}
		last := b.s
		for free := freeBy(last, b.stamp); len(free) > 0; free = freeBy(last, b.stamp) {
			cell := free[source.Intn(len(free))]
			mirror, one := impl.MirrorCell(b.stamp, cell)
			next, n, two := impl.PlayParty(last, b.stamp, [][2]int{cell, mirror})
			if !one || !two || n != 2 {
				t.Fatalf("PlayParty(%v, %v) at %v and %v = %v, %d, %v", last, b.stamp, cell, mirror, next, n, two)
			}
			if again, ok := impl.MirrorWins(next, b.stamp); !ok || !again {
				t.Fatalf("MirrorWins(%v, %v) = %v, %v", next, b.stamp, again, ok)
			}
			last = next
			replies++
		}
	}
	if replies < 500 {
		t.Errorf("just %d presses of the test are mirrored", replies)
	}
}

func TestInvalidSheetsAndStampsHaveNoGames(t *testing.T) {
	for _, bad := range badSheets() {
		for _, other := range []impl.Sheet{white, full, bad, unit, holed, walled(56), sheet(3)} {
			checkNotPressed(t, bad, other)
			checkNotPressed(t, other, bad)
		}
	}
}

func TestTheStampWithoutBlackCellsHasNoGames(t *testing.T) {
	for _, s := range append(someSheets(12), holed, walled(56), sheet(-1)) {
		checkNotPressed(t, s, white)
	}
}

func checkNoMirror(t *testing.T, stamp impl.Sheet, cell [2]int) {
	t.Helper()
	if mirror, ok := impl.MirrorCell(stamp, cell); ok || mirror != [2]int{} {
		t.Errorf("MirrorCell(%v, %v) = %v, %v", stamp, cell, mirror, ok)
	}
}

func TestInvalidStampsAndCellsHaveNoMirror(t *testing.T) {
	for _, stamp := range append(badSheets(), white) {
		for _, cell := range append(allCells(), [2]int{6, 0}, [2]int{0, -1}) {
			checkNoMirror(t, stamp, cell)
		}
	}
	for _, cell := range badCells() {
		for _, stamp := range []impl.Sheet{unit, full, sheet(3), uneven, white} {
			checkNoMirror(t, stamp, cell)
		}
	}
}

func TestGamesModifyNoArgument(t *testing.T) {
	backing := at(5, 5, 0, 0, 2, 0, 2, 0, 9, 9, 0, math.MinInt, 3, 2, 2, 2)
	before := slices.Clone(backing)
	for from := range backing {
		for to := from; to <= len(backing); to++ {
			for _, s := range []impl.Sheet{white, full, uneven, sheet(-1)} {
				impl.PlayParty(s, sheet(3), backing[from:to])
				impl.PlayParty(s, unit, backing[from:to])
			}
			if !slices.Equal(backing, before) {
				t.Fatalf("the party %v is left as %v", before, backing)
			}
		}
	}
}

func TestGamesSameResultsAgain(t *testing.T) {
	s, stamp := walled(48, 63, 60), sheet(3)
	for name, call := range map[string]cellsCall{"FreeCells": impl.FreeCells, "WinningCells": impl.WinningCells} {
		cells, one := call(s, stamp)
		first := slices.Clone(cells)
		longer := append(cells, [2]int{-1, -1})
		for i := range longer {
			longer[i] = [2]int{-1, -1}
		}
		for i := range cells {
			cells[i] = [2]int{7, 7}
		}
		call(full, unit)
		call(sheet(-1), unit)
		if again, two := call(s, stamp); !one || !two || len(first) == 0 || !slices.Equal(again, first) {
			t.Errorf("%s gives %v and then %v", name, first, again)
		}
	}
	for range 3 {
		nexts, one := impl.NextsOf(s, stamp)
		last, n, two := impl.PlayParty(s, stamp, at(1, 0, 0, 2))
		if want := nextsBy(s, stamp); !one || !two || !slices.Equal(nexts, want) || last != walled(54, 63, 63) || n != 2 {
			t.Errorf("NextsOf %v, PlayParty %v, %d", nexts, last, n)
		}
		for i := range nexts {
			nexts[i] = sheet(-1)
		}
		last.Rows[0] = 99
		checkPlayed(t, s, stamp, played{true, true, 3, 3, 2})
		// The same sheet with another stamp is another game.
		checkPlayed(t, s, sheet(7), played{true, false, 1, 1, 1})
	}
}
