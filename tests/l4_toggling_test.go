package tests

import (
	"math"
	"math/big"
	"math/rand"
	"slices"
	"testing"

	"loop.example/g01220/impl"
)

var (
	unit = sheet(1)
	// thirteen is a stamp whose kernel has just one dimension more than MaxKernel.
	thirteen = sheet(4, 1, 32, 37)
)

func differ(a, b impl.Sheet) impl.Sheet {
	return each(gridOf(a), gridOf(b), func(a, b bool) bool { return a != b }).sheet()
}

func sizeOf(s impl.Sheet) int { return len(gridOf(s).cells()) }

// printed toggles the stamp at one black cell of the presses behind the other.
func printed(stamp, presses impl.Sheet) impl.Sheet {
	var s impl.Sheet
	for _, cell := range gridOf(presses).cells() {
		s = differ(s, gridOf(stamp).moved(cell[0], cell[1]).sheet())
	}
	return s
}

// lead returns the place of the first black cell by row and then by column from 5 on, of a sheet that is not white.
func lead(s impl.Sheet) int {
	g := gridOf(s)
	for place := range 36 {
		if g[place/6][5-place%6] {
			return place
		}
	}
	return 36
}

func blackAt(s impl.Sheet, place int) bool { return gridOf(s)[place/6][5-place%6] }

// numberOf has the cells of some sheets, one behind the other, as the digits of one number.
func numberOf(sheets ...impl.Sheet) *big.Int {
	n := new(big.Int)
	for _, s := range sheets {
		for _, row := range s.Rows {
			n.Lsh(n, 6).Add(n, big.NewInt(int64(row)))
		}
	}
	return n
}

// A span has numbers by their lengths; all numbers that it spans are the differences of some of them, digit by digit.
type span map[int]*big.Int

// rest takes numbers of the span away from n, as far as that goes.
func (p span) rest(n *big.Int) *big.Int {
	rest := new(big.Int).Set(n)
	for p[rest.BitLen()] != nil {
		rest.Xor(rest, p[rest.BitLen()])
	}
	return rest
}

func (p span) add(n *big.Int) {
	if rest := p.rest(n); rest.Sign() != 0 {
		p[rest.BitLen()] = rest
	}
}

func (p span) has(s impl.Sheet) bool { return p.rest(numberOf(s)).Sign() == 0 }

// printsOf spans the prints of all presses, each with those of the other stamps behind it.
func printsOf(stamps ...impl.Sheet) span {
	all := span{}
	for _, cell := range allCells() {
		prints := make([]impl.Sheet, len(stamps))
		for i, stamp := range stamps {
			prints[i] = printed(stamp, oneCell(cell))
		}
		all.add(numberOf(prints...))
	}
	return all
}

// stampsOf gives stamps with kernels of many dimensions, and n others.
func stampsOf(n int) []impl.Sheet {
	all := []impl.Sheet{white, full, unit, thirteen, uneven, sheet(2), sheet(8), sheet(0, 0, 0, 8), sheet(3), sheet(5), sheet(7), sheet(9), sheet(63),
		sheet(1, 1), sheet(3, 3), sheet(3, 1), sheet(11), sheet(1, 2, 4, 8, 16, 32), sheet(7, 7, 7), sheet(7, 2, 2), sheet(2, 7, 2), sheet(2, 5, 2),
		sheet(10, 0, 40), sheet(36, 20, 32, 0, 48, 4), sheet(36, 0, 5, 0, 0, 33), sheet(4, 8, 2, 32, 34, 12), sheet(0, 0, 2, 0, 35, 33), sheet(32, 1, 16, 8),
		sheet(4, 9, 32), sheet(0, 0, 36, 8, 0, 4), sheet(32, 2, 0, 16, 1), sheet(21, 42, 21, 42, 21, 42), sheet(62, 63, 63, 63, 63, 63), sheet(62, 61, 59, 55, 47, 31)}
	return append(all, someSheets(n)[46:]...)
}

func somePresses() []impl.Sheet { return someSheets(12)[40:] }

// A known kernel is one whose presses are told by a rule, and not by an elimination.
type known struct {
	stamp impl.Sheet
	quiet []impl.Sheet
}

// ofRows gives all sheets that have just these numbers as rows.
func ofRows(rows ...int) []impl.Sheet {
	all := []impl.Sheet{white}
	for y := range 6 {
		var next []impl.Sheet
		for _, s := range all {
			for _, row := range rows {
				s.Rows[y] = row
				next = append(next, s)
			}
		}
		all = next
	}
	return all
}

func quarters(sheets []impl.Sheet) []impl.Sheet {
	var all []impl.Sheet
	for _, s := range sheets {
		all = append(all, gridOf(s).quarter().sheet())
	}
	return all
}

func knownKernels() []known {
	var squares []impl.Sheet
	for row := range 32 {
		squares = append(squares, ofRows(row, 63-row)...)
	}
	return []known{
		{unit, []impl.Sheet{white}},
		{sheet(0, 4), []impl.Sheet{white}},
		{sheet(3), ofRows(0, 63)},
		{sheet(1, 1), quarters(ofRows(0, 63))},
		{sheet(5), ofRows(0, 21, 42, 63)},
		{sheet(7), ofRows(0, 27, 45, 54)},
		{sheet(1, 0, 1), quarters(ofRows(0, 21, 42, 63))},
		{sheet(3, 3), squares},
	}
}

func TestMaxKernelIsTwelve(t *testing.T) {
	if impl.MaxKernel != 12 {
		t.Error("MaxKernel", impl.MaxKernel)
	}
}

func TestPrintOf(t *testing.T) {
	for _, c := range [][3]impl.Sheet{
		{white, white, white}, {white, full, white}, {full, white, white}, {full, full, white}, {full, sheet(0, 8), full}, {full, sheet(3, 1), full},
		{unit, uneven, uneven}, {uneven, unit, uneven}, {sheet(3), sheet(3), sheet(5)}, {sheet(3), sheet(32), sheet(33)}, {sheet(3), sheet(63), white},
		{sheet(3, 3), sheet(0, 0, 0, 0, 0, 32), sheet(33, 0, 0, 0, 0, 33)}, {sheet(3, 1), sheet(1, 1), sheet(3, 2, 1)}, {sheet(2), sheet(1, 2, 4, 8, 16, 32), sheet(2, 4, 8, 16, 32, 1)},
	} {
		if got, ok := impl.PrintOf(c[0], c[1]); !ok || got != c[2] {
			t.Errorf("PrintOf(%v, %v) = %v, %v", c[0], c[1], got, ok)
		}
	}
	for _, stamp := range stampsOf(40) {
		for _, presses := range stampsOf(40) {
			got, ok := impl.PrintOf(stamp, presses)
			if !ok || got != printed(stamp, presses) {
				t.Fatalf("PrintOf(%v, %v) = %v, %v", stamp, presses, got, ok)
			}
			if other, ok := impl.PrintOf(presses, stamp); !ok || other != got {
				t.Fatalf("the products of %v and %v are %v and %v", stamp, presses, got, other)
			}
		}
	}
}

// ToggleAt of chapter 2, in any order, has the print of the presses.
func TestPrintIsMadeByToggles(t *testing.T) {
	source := rand.New(rand.NewSource(4))
	for _, stamp := range stampsOf(20) {
		for _, presses := range somePresses() {
			cells := gridOf(presses).cells()
			source.Shuffle(len(cells), func(i, j int) { cells[i], cells[j] = cells[j], cells[i] })
			s := white
			for _, cell := range cells {
				s, _ = impl.ToggleAt(s, stamp, cell)
			}
			if got, ok := impl.PrintOf(stamp, presses); !ok || got != s {
				t.Fatalf("PrintOf(%v, %v) = %v, %v, and toggles make %v", stamp, presses, got, ok, s)
			}
		}
	}
}

// inEachRow gives the sheets that have one of these numbers in one row, and none in the others.
func inEachRow(rows ...int) []impl.Sheet {
	var all []impl.Sheet
	for y := range 6 {
		for _, row := range rows {
			var s impl.Sheet
			s.Rows[y] = row
			all = append(all, s)
		}
	}
	return all
}

func TestKernelOf(t *testing.T) {
	singles := inEachRow(32, 16, 8, 4, 2, 1)
	var pairs []impl.Sheet
	for _, s := range singles[:35] {
		pairs = append(pairs, differ(s, sheet(0, 0, 0, 0, 0, 1)))
	}
	columns := []impl.Sheet{}
	for _, row := range []int{32, 16, 8, 4, 2, 1} {
		columns = append(columns, sheet(row, row, row, row, row, row))
	}
	for _, c := range []struct {
		stamp impl.Sheet
		want  []impl.Sheet
	}{
		{white, singles}, {full, pairs}, {unit, nil}, {sheet(0, 0, 0, 0, 0, 32), nil}, {sheet(11), nil},
		{sheet(3), inEachRow(63)}, {sheet(0, 0, 48), inEachRow(63)}, {sheet(1, 1), columns}, {sheet(5), inEachRow(42, 21)}, {sheet(7), inEachRow(45, 27)},
		{sheet(9), inEachRow(36, 18, 9)}, {sheet(63), inEachRow(33, 17, 9, 5, 3)},
	} {
		if basis, ok := impl.KernelOf(c.stamp); !ok || !slices.Equal(basis, c.want) {
			t.Errorf("KernelOf(%v) = %v, %v", c.stamp, basis, ok)
		}
	}
}

func TestKernelsAreAsTheirRulesSay(t *testing.T) {
	for _, k := range knownKernels() {
		basis, ok := impl.KernelOf(k.stamp)
		if !ok || 1<<len(basis) != len(k.quiet) {
			t.Errorf("KernelOf(%v) = %v, %v, for %d presses", k.stamp, basis, ok, len(k.quiet))
		}
		made := span{}
		for _, s := range basis {
			made.add(numberOf(s))
		}
		for _, s := range k.quiet {
			if !made.has(s) {
				t.Fatalf("the basis %v of %v does not make %v", basis, k.stamp, s)
			}
			if quiet, ok := impl.IsQuiet(k.stamp, s); !ok || !quiet {
				t.Fatalf("IsQuiet(%v, %v) = %v, %v", k.stamp, s, quiet, ok)
			}
		}
	}
}

// checkBasis asks for quiet presses in descending order, each with a lead that is white in all others.
func checkBasis(t *testing.T, stamp impl.Sheet, basis []impl.Sheet) {
	t.Helper()
	for i, s := range basis {
		if s == white || printed(stamp, s) != white {
			t.Errorf("the basis of %v has %v, which prints %v", stamp, s, printed(stamp, s))
		}
		if i > 0 && (!before(s, basis[i-1]) || lead(s) <= lead(basis[i-1])) {
			t.Errorf("the basis of %v has %v behind %v", stamp, s, basis[i-1])
		}
		for j, other := range basis {
			if i != j && blackAt(other, lead(s)) {
				t.Errorf("the basis of %v has %v, which is black at the lead of %v", stamp, other, s)
			}
		}
	}
}

func TestBasisAndRank(t *testing.T) {
	dimensions := map[int]bool{}
	for _, stamp := range stampsOf(400) {
		basis, one := impl.KernelOf(stamp)
		rank, two := impl.RankOf(stamp)
		if !one || !two || rank != len(printsOf(stamp)) || rank+len(basis) != 36 {
			t.Errorf("RankOf(%v) = %d, %v, and KernelOf gives %d presses, %v", stamp, rank, two, len(basis), one)
		}
		checkBasis(t, stamp, basis)
		undoable, ok := impl.IsUndoable(stamp)
		if !ok || undoable != (len(basis) == 0) {
			t.Errorf("IsUndoable(%v) = %v, %v, with a basis of %d", stamp, undoable, ok, len(basis))
		}
		if sizeOf(stamp)%2 == 0 && undoable {
			t.Errorf("%v has an even size and is undoable", stamp)
		}
		dimensions[len(basis)] = true
	}
	for _, dimension := range []int{0, 2, 3, 4, 6, 7, 8, 9, 10, 11, impl.MaxKernel, impl.MaxKernel + 1, 15, 17, 18, 30, 35, 36} {
		if !dimensions[dimension] {
			t.Errorf("no stamp of the test has a kernel of dimension %d", dimension)
		}
	}
}

func TestRankOf(t *testing.T) {
	for _, c := range []struct {
		stamp impl.Sheet
		want  int
	}{
		{white, 0}, {full, 1}, {unit, 36}, {sheet(3), 30}, {sheet(5), 24}, {sheet(7), 24}, {sheet(9), 18}, {sheet(63), 6}, {sheet(3, 3), 25}, {thirteen, 23},
		{sheet(1, 2, 4, 8, 16, 32), 6}, {sheet(11), 36}, {sheet(21, 42, 21, 42, 21, 42), 2},
	} {
		if rank, ok := impl.RankOf(c.stamp); !ok || rank != c.want {
			t.Errorf("RankOf(%v) = %d, %v", c.stamp, rank, ok)
		}
	}
}

func TestKernelOfAProductHasBoth(t *testing.T) {
	for _, a := range stampsOf(10) {
		for _, b := range stampsOf(10) {
			product := printed(a, b)
			for _, stamp := range []impl.Sheet{a, b} {
				basis, _ := impl.KernelOf(stamp)
				for _, s := range basis {
					if quiet, ok := impl.IsQuiet(product, s); !ok || !quiet {
						t.Fatalf("%v is quiet for %v, but not for its product %v, %v", s, stamp, product, ok)
					}
				}
			}
		}
	}
}

// targetsOf gives the white target, prints of the stamp, and other sheets.
func targetsOf(stamp impl.Sheet) []impl.Sheet {
	all := append(stampsOf(10)[:12], somePresses()...)
	for _, presses := range somePresses() {
		all = append(all, printed(stamp, presses))
	}
	return all
}

func TestCanToggle(t *testing.T) {
	for _, c := range []struct {
		stamp, target impl.Sheet
		want          bool
	}{
		{white, white, true}, {white, unit, false}, {white, full, false}, {full, white, true}, {full, full, true}, {full, sheet(63), false},
		{unit, uneven, true}, {unit, white, true}, {sheet(3), unit, false}, {sheet(3), sheet(5), true}, {sheet(3), sheet(1, 1), false}, {sheet(3), sheet(9, 33), true},
		{sheet(5), sheet(5), true}, {sheet(5), sheet(9), false}, {sheet(5), full, false}, {sheet(63), sheet(63, 0, 63), true}, {sheet(63), sheet(63, 1), false},
		{sheet(11), unit, true}, {sheet(7), unit, false},
	} {
		if can, ok := impl.CanToggle(c.stamp, c.target); !ok || can != c.want {
			t.Errorf("CanToggle(%v, %v) = %v, %v", c.stamp, c.target, can, ok)
		}
	}
	both := map[bool]int{}
	for _, stamp := range stampsOf(60) {
		prints := printsOf(stamp)
		for _, target := range targetsOf(stamp) {
			can, ok := impl.CanToggle(stamp, target)
			if !ok || can != prints.has(target) {
				t.Errorf("CanToggle(%v, %v) = %v, %v", stamp, target, can, ok)
			}
			both[can]++
		}
	}
	if both[true] < 100 || both[false] < 100 {
		t.Errorf("%d of the targets are prints, %d are not", both[true], both[false])
	}
}

// For stamps of a low rank all prints are made, by all presses in some cells.
func TestJustThePrintsCanBeToggled(t *testing.T) {
	for _, c := range []struct {
		stamp impl.Sheet
		where []impl.Sheet
	}{
		{white, []impl.Sheet{white}}, {full, []impl.Sheet{white, unit}}, {sheet(63), ofRows(0, 1)}, {sheet(1, 1, 1, 1, 1, 1), quarters(ofRows(0, 1))},
	} {
		prints := map[impl.Sheet]bool{}
		for _, presses := range c.where {
			prints[printed(c.stamp, presses)] = true
		}
		for _, target := range append(append(ofRows(0, 63), quarters(ofRows(0, 63))...), someSheets(50)...) {
			if can, ok := impl.CanToggle(c.stamp, target); !ok || can != prints[target] {
				t.Errorf("CanToggle(%v, %v) = %v, %v", c.stamp, target, can, ok)
			}
		}
	}
}

// reflected has what is in the cell x, y in the cell whose numbers are the remainders of -x and -y.
func reflected(s impl.Sheet) impl.Sheet {
	var g grid
	for _, cell := range gridOf(s).cells() {
		g[(6-cell[1])%6][(6-cell[0])%6] = true
	}
	return g.sheet()
}

// Each print has an even number of cells in all that is quiet for the reflected stamp; a target with an odd one is none.
func TestOtherTargetsHaveAWitness(t *testing.T) {
	for _, stamp := range stampsOf(40) {
		back := reflected(stamp)
		basis, _ := impl.KernelOf(back)
		for _, target := range targetsOf(stamp) {
			witness := slices.ContainsFunc(basis, func(s impl.Sheet) bool {
				common := each(gridOf(s), gridOf(target), func(a, b bool) bool { return a && b })
				return printed(back, s) == white && len(common.cells())%2 == 1
			})
			if can, ok := impl.CanToggle(stamp, target); !ok || can == witness {
				t.Errorf("CanToggle(%v, %v) = %v, %v, and a witness against it: %v", stamp, target, can, ok, witness)
			}
		}
	}
}

func TestLeastPresses(t *testing.T) {
	for _, c := range [][3]impl.Sheet{
		{white, white, white}, {full, white, white}, {full, full, sheet(0, 0, 0, 0, 0, 1)}, {unit, uneven, uneven}, {unit, full, full}, {sheet(2), unit, sheet(32)},
		{sheet(3), sheet(5), sheet(3)}, {sheet(3), sheet(33), sheet(31)}, {sheet(3), sheet(9), sheet(7)}, {sheet(3), white, white}, {sheet(3), full, sheet(21, 21, 21, 21, 21, 21)},
		{sheet(63), sheet(63, 0, 63), sheet(1, 0, 1)}, {sheet(5), sheet(5), unit}, {sheet(5), sheet(20), sheet(4)}, {sheet(5), sheet(17), sheet(5)}, {sheet(1, 1), sheet(8, 8), sheet(0, 8, 8, 8, 8, 8)}, {sheet(1, 1), sheet(8, 0, 0, 0, 0, 8), sheet(0, 0, 0, 0, 0, 8)},
	} {
		if got, ok := impl.LeastPresses(c[0], c[1]); !ok || got != c[2] {
			t.Errorf("LeastPresses(%v, %v) = %v, %v", c[0], c[1], got, ok)
		}
	}
	for _, c := range [][2]impl.Sheet{{white, unit}, {full, unit}, {sheet(3), unit}, {sheet(3), sheet(1, 1)}, {sheet(7), unit}, {sheet(63), sheet(62)}, {sheet(5), sheet(3)}} {
		got, ok := impl.LeastPresses(c[0], c[1])
		checkNoSheet(t, "LeastPresses", got, ok)
		got, n, ok := impl.FewestPresses(c[0], c[1])
		checkNoSheet(t, "FewestPresses", got, ok || n != 0)
	}
}

func TestFewestPresses(t *testing.T) {
	for _, c := range []struct {
		stamp, target, want impl.Sheet
		n                   int
	}{
		{unit, white, white, 0}, {unit, full, full, 36}, {unit, uneven, uneven, 4}, {sheet(2), unit, sheet(32), 1}, {sheet(3), white, white, 0},
		{sheet(3), sheet(5), sheet(3), 2}, {sheet(3), sheet(33), sheet(32), 1}, {sheet(3), sheet(9), sheet(7), 3}, {sheet(3), sheet(33, 9, 33), sheet(32, 7, 32), 5},
		{sheet(3), full, sheet(21, 21, 21, 21, 21, 21), 18}, {sheet(5), white, white, 0}, {sheet(5), sheet(17), sheet(16), 1}, {sheet(5), sheet(34), sheet(32), 1},
		{sheet(1, 1), sheet(8, 0, 0, 0, 0, 8), sheet(0, 0, 0, 0, 0, 8), 1}, {sheet(3, 3), white, white, 0}, {sheet(3, 3), sheet(33, 0, 0, 0, 0, 33), sheet(0, 0, 0, 0, 0, 32), 1},
	} {
		if got, n, ok := impl.FewestPresses(c.stamp, c.target); !ok || got != c.want || n != c.n {
			t.Errorf("FewestPresses(%v, %v) = %v, %d, %v", c.stamp, c.target, got, n, ok)
		}
	}
}

func TestFewestPressesTakeNoGreaterKernel(t *testing.T) {
	for _, stamp := range []impl.Sheet{white, full, thirteen, sheet(9), sheet(63), sheet(1, 2, 4, 8, 16, 32)} {
		for _, presses := range []impl.Sheet{white, unit, uneven} {
			target := printed(stamp, presses)
			if _, ok := impl.LeastPresses(stamp, target); !ok {
				t.Errorf("LeastPresses(%v, %v) fails", stamp, target)
			}
			got, n, ok := impl.FewestPresses(stamp, target)
			checkNoSheet(t, "FewestPresses", got, ok || n != 0)
		}
	}
	if rank, _ := impl.RankOf(thirteen); rank != 36-impl.MaxKernel-1 {
		t.Errorf("RankOf(%v) = %d", thirteen, rank)
	}
}

// checkPresses holds LeastPresses and FewestPresses against all presses with the same print.
func checkPresses(t *testing.T, stamp, presses impl.Sheet, quiet []impl.Sheet) {
	t.Helper()
	target := printed(stamp, presses)
	least, fewest := presses, presses
	for _, s := range quiet {
		other := differ(presses, s)
		if before(other, least) {
			least = other
		}
		if n, m := sizeOf(other), sizeOf(fewest); n < m || n == m && before(other, fewest) {
			fewest = other
		}
	}
	if got, ok := impl.LeastPresses(stamp, target); !ok || got != least {
		t.Errorf("LeastPresses(%v, %v) = %v, %v, not %v", stamp, target, got, ok, least)
	}
	if got, n, ok := impl.FewestPresses(stamp, target); !ok || got != fewest || n != sizeOf(fewest) {
		t.Errorf("FewestPresses(%v, %v) = %v, %d, %v, not %v", stamp, target, got, n, ok, fewest)
	}
}

func TestPressesAreTheLeastAndTheFewest(t *testing.T) {
	for _, k := range knownKernels() {
		for _, presses := range somePresses() {
			checkPresses(t, k.stamp, presses, k.quiet)
		}
	}
	for _, stamp := range stampsOf(40) {
		basis, _ := impl.KernelOf(stamp)
		if len(basis) > 10 {
			continue
		}
		quiet := []impl.Sheet{white}
		for _, s := range basis {
			for _, other := range quiet {
				quiet = append(quiet, differ(s, other))
			}
		}
		for _, presses := range somePresses()[:4] {
			checkPresses(t, stamp, presses, quiet)
		}
	}
}

func TestPressesHaveTheTargetAsTheirPrint(t *testing.T) {
	for _, stamp := range stampsOf(60) {
		basis, _ := impl.KernelOf(stamp)
		for _, target := range targetsOf(stamp) {
			can, fine := impl.CanToggle(stamp, target)
			least, ok := impl.LeastPresses(stamp, target)
			fewest, n, few := impl.FewestPresses(stamp, target)
			if !fine || ok != can || few != (can && len(basis) <= impl.MaxKernel) {
				t.Fatalf("%v and %v: CanToggle %v, LeastPresses %v, FewestPresses %v", stamp, target, can, ok, few)
			}
			if can && printed(stamp, least) != target || !can && least != white {
				t.Errorf("LeastPresses(%v, %v) = %v", stamp, target, least)
			}
			for i, s := range basis {
				if blackAt(least, lead(s)) {
					t.Errorf("LeastPresses(%v, %v) = %v, and %v makes it less", stamp, target, least, s)
				}
				if i < 5 && can && printed(stamp, differ(least, s)) != target {
					t.Errorf("%v prints something else with the quiet %v", least, s)
				}
			}
			if few && (printed(stamp, fewest) != target || n != sizeOf(fewest) || n > sizeOf(least) || before(fewest, least)) {
				t.Errorf("FewestPresses(%v, %v) = %v, %d, and LeastPresses gives %v", stamp, target, fewest, n, least)
			}
			if !few && (fewest != white || n != 0) {
				t.Errorf("FewestPresses(%v, %v) fails with %v, %d", stamp, target, fewest, n)
			}
		}
	}
}

func TestIsUndoable(t *testing.T) {
	for _, c := range []struct {
		stamp impl.Sheet
		want  bool
	}{
		{white, false}, {full, false}, {unit, true}, {sheet(0, 0, 0, 0, 0, 32), true}, {sheet(3), false}, {sheet(7), false}, {sheet(11), true}, {sheet(3, 1), false},
		{sheet(31), true}, {sheet(63), false}, {sheet(62, 63, 63, 63, 63, 63), true}, {thirteen, false},
	} {
		if undoable, ok := impl.IsUndoable(c.stamp); !ok || undoable != c.want {
			t.Errorf("IsUndoable(%v) = %v, %v", c.stamp, undoable, ok)
		}
	}
}

func TestUndoStamp(t *testing.T) {
	for _, c := range [][2]impl.Sheet{
		{unit, unit}, {sheet(2), sheet(32)}, {sheet(8), sheet(8)}, {sheet(0, 1), sheet(0, 0, 0, 0, 0, 1)}, {sheet(0, 0, 4), sheet(0, 0, 0, 0, 16)},
		{sheet(62, 63, 63, 63, 63, 63), sheet(62, 63, 63, 63, 63, 63)}, {sheet(31), sheet(61)},
	} {
		if undo, ok := impl.UndoStamp(c[0]); !ok || undo != c[1] {
			t.Errorf("UndoStamp(%v) = %v, %v", c[0], undo, ok)
		}
	}
	both := map[bool]int{}
	for _, stamp := range append(stampsOf(300), sheet(11), sheet(13, 0, 2)) {
		undo, ok := impl.UndoStamp(stamp)
		if ok != (len(printsOf(stamp)) == 36) || ok && printed(stamp, undo) != unit || !ok && undo != white {
			t.Errorf("UndoStamp(%v) = %v, %v", stamp, undo, ok)
		}
		if again, fine := impl.UndoStamp(undo); ok && (!fine || again != stamp) {
			t.Errorf("UndoStamp(%v) = %v, %v, and not %v", undo, again, fine, stamp)
		}
		both[ok]++
	}
	if both[true] < 30 || both[false] < 30 {
		t.Errorf("%d of the stamps are undoable, %d are not", both[true], both[false])
	}
}

func TestPowerOf(t *testing.T) {
	for _, c := range []struct {
		stamp impl.Sheet
		n     int
		want  impl.Sheet
	}{
		{white, 0, unit}, {white, 1, white}, {white, 24, white}, {full, 0, unit}, {full, 1, full}, {full, 2, white}, {full, 24, white}, {unit, 0, unit}, {unit, 24, unit},
		{sheet(2), 1, sheet(2)}, {sheet(2), 5, sheet(32)}, {sheet(2), 6, unit}, {sheet(2), 23, sheet(32)}, {sheet(2), 24, unit}, {sheet(3), 2, sheet(5)}, {sheet(3), 24, sheet(20)},
		{sheet(0, 2), 2, sheet(0, 0, 4)}, {sheet(3, 1), 2, sheet(5, 0, 1)}, {sheet(7), 24, sheet(21)},
	} {
		if got, ok := impl.PowerOf(c.stamp, c.n); !ok || got != c.want {
			t.Errorf("PowerOf(%v, %d) = %v, %v", c.stamp, c.n, got, ok)
		}
	}
	for _, stamp := range stampsOf(60) {
		want := unit
		for n := range 25 {
			if got, ok := impl.PowerOf(stamp, n); !ok || got != want {
				t.Fatalf("PowerOf(%v, %d) = %v, %v", stamp, n, got, ok)
			}
			want = printed(want, stamp)
		}
	}
}

func TestPowerOfOtherNumbersFails(t *testing.T) {
	for _, n := range []int{-1, -2, -24, -25, 25, 26, 48, 1 << 32, math.MaxInt, math.MaxInt - 1, math.MinInt, math.MinInt + 1} {
		for _, stamp := range []impl.Sheet{white, full, unit, sheet(2), sheet(64)} {
			got, ok := impl.PowerOf(stamp, n)
			checkNoSheet(t, "PowerOf", got, ok)
		}
	}
}

func TestStampOrder(t *testing.T) {
	for _, c := range []struct {
		stamp impl.Sheet
		want  int
	}{
		{unit, 1}, {sheet(8), 2}, {sheet(0, 0, 0, 8), 2}, {sheet(4), 3}, {sheet(0, 0, 1), 3}, {sheet(2), 6}, {sheet(0, 2), 6}, {sheet(0, 0, 0, 4), 6},
		{sheet(62, 63, 63, 63, 63, 63), 2}, {white, 0}, {full, 0}, {sheet(3), 0}, {sheet(7), 0}, {sheet(3, 1), 0}, {thirteen, 0},
	} {
		if n, ok := impl.StampOrder(c.stamp); ok != (c.want > 0) || n != c.want {
			t.Errorf("StampOrder(%v) = %d, %v", c.stamp, n, ok)
		}
	}
	orders := map[int]bool{}
	for _, stamp := range append(stampsOf(400), oneCell([2]int{3, 3}), oneCell([2]int{2, 4})) {
		power, want := stamp, 0
		for n := 1; n <= 24 && want == 0; n++ {
			if power == unit {
				want = n
			}
			power = printed(power, stamp)
		}
		n, ok := impl.StampOrder(stamp)
		if n != want || ok != (want > 0) || ok && 6%n != 0 {
			t.Errorf("StampOrder(%v) = %d, %v, not %d", stamp, n, ok, want)
		}
		if undoable, fine := impl.IsUndoable(stamp); !fine || undoable != ok {
			t.Errorf("IsUndoable(%v) = %v, %v, and StampOrder gives %v", stamp, undoable, fine, ok)
		}
		orders[n] = true
	}
	if len(orders) != 5 {
		t.Errorf("the stamps have the orders %v", orders)
	}
}

func TestIsQuiet(t *testing.T) {
	for _, c := range []struct {
		stamp, presses impl.Sheet
		want           bool
	}{
		{white, white, true}, {white, full, true}, {full, white, true}, {full, full, true}, {full, unit, false}, {full, sheet(3), true}, {unit, white, true}, {unit, unit, false},
		{sheet(3), sheet(63), true}, {sheet(3), sheet(31), false}, {sheet(3), full, true}, {sheet(5), sheet(21), true}, {sheet(7), sheet(27), true}, {sheet(7), sheet(21), false},
	} {
		if quiet, ok := impl.IsQuiet(c.stamp, c.presses); !ok || quiet != c.want {
			t.Errorf("IsQuiet(%v, %v) = %v, %v", c.stamp, c.presses, quiet, ok)
		}
	}
	for _, stamp := range stampsOf(40) {
		for _, presses := range stampsOf(40) {
			if quiet, ok := impl.IsQuiet(stamp, presses); !ok || quiet != (printed(stamp, presses) == white) {
				t.Errorf("IsQuiet(%v, %v) = %v, %v", stamp, presses, quiet, ok)
			}
		}
	}
}

func TestQuietStamps(t *testing.T) {
	for _, c := range []struct {
		list []impl.Sheet
		want int
	}{
		{nil, 36}, {[]impl.Sheet{}, 36}, {[]impl.Sheet{white}, 36}, {[]impl.Sheet{full}, 35}, {[]impl.Sheet{unit}, 0}, {[]impl.Sheet{thirteen}, 13},
		{[]impl.Sheet{sheet(3)}, 6}, {[]impl.Sheet{sheet(3), sheet(3)}, 6}, {[]impl.Sheet{sheet(3), sheet(1, 1)}, 1}, {[]impl.Sheet{sheet(3), sheet(5)}, 6},
		{[]impl.Sheet{sheet(5), sheet(3)}, 6}, {[]impl.Sheet{sheet(5), sheet(9)}, 6}, {[]impl.Sheet{sheet(5), sheet(7)}, 0}, {[]impl.Sheet{sheet(7), sheet(9)}, 12},
		{[]impl.Sheet{sheet(5), sheet(1, 0, 1)}, 4}, {[]impl.Sheet{sheet(3), sheet(1, 0, 1), white}, 2}, {[]impl.Sheet{full, sheet(63), sheet(1, 1, 1, 1, 1, 1)}, 25},
		{[]impl.Sheet{white, white, white, white, white, white}, 36}, {[]impl.Sheet{full, white, full, sheet(3), sheet(5), sheet(1, 1)}, 1},
		{[]impl.Sheet{white, white, white, white, white, unit}, 0},
	} {
		if n, ok := impl.QuietStamps(c.list); !ok || n != c.want {
			t.Errorf("QuietStamps(%v) = %d, %v", c.list, n, ok)
		}
	}
	source := rand.New(rand.NewSource(5))
	stamps := stampsOf(40)
	for i := range 300 {
		list := make([]impl.Sheet, i%7)
		for j := range list {
			list[j] = stamps[source.Intn(len(stamps))]
		}
		if n, ok := impl.QuietStamps(list); !ok || n != 36-len(printsOf(list...)) {
			t.Errorf("QuietStamps(%v) = %d, %v", list, n, ok)
		}
	}
	for _, stamp := range stamps {
		basis, _ := impl.KernelOf(stamp)
		if n, ok := impl.QuietStamps([]impl.Sheet{stamp}); !ok || n != len(basis) {
			t.Errorf("QuietStamps of %v alone = %d, %v", stamp, n, ok)
		}
	}
}

func TestQuietStampsOfLongListsFails(t *testing.T) {
	for _, n := range []int{7, 8, 36, 100000} {
		for _, stamp := range []impl.Sheet{white, unit, full, sheet(-1)} {
			if n, ok := impl.QuietStamps(slices.Repeat([]impl.Sheet{stamp}, n)); ok || n != 0 {
				t.Errorf("QuietStamps of too many stamps = %d, %v", n, ok)
			}
		}
	}
}

func TestInvalidStampsFail(t *testing.T) {
	for _, bad := range badSheets() {
		if basis, ok := impl.KernelOf(bad); ok || len(basis) != 0 {
			t.Errorf("KernelOf(%v) = %v, %v", bad, basis, ok)
		}
		if rank, ok := impl.RankOf(bad); ok || rank != 0 {
			t.Errorf("RankOf(%v) = %d, %v", bad, rank, ok)
		}
		if undoable, ok := impl.IsUndoable(bad); ok || undoable {
			t.Errorf("IsUndoable(%v) = %v, %v", bad, undoable, ok)
		}
		if n, ok := impl.StampOrder(bad); ok || n != 0 {
			t.Errorf("StampOrder(%v) = %d, %v", bad, n, ok)
		}
		s, ok := impl.UndoStamp(bad)
		checkNoSheet(t, "UndoStamp", s, ok)
		for _, n := range []int{0, 1, 2, 24, -1, 25, math.MaxInt, math.MinInt} {
			s, ok := impl.PowerOf(bad, n)
			checkNoSheet(t, "PowerOf", s, ok)
		}
		for _, list := range [][]impl.Sheet{{bad}, {bad, bad}, {bad, white}, {unit, bad}, {unit, white, bad}, {white, full, unit, unit, full, bad}} {
			if n, ok := impl.QuietStamps(list); ok || n != 0 {
				t.Errorf("QuietStamps(%v) = %d, %v", list, n, ok)
			}
		}
	}
}

func TestInvalidStampsOrPressesFail(t *testing.T) {
	for _, bad := range badSheets() {
		for _, other := range []impl.Sheet{white, full, bad, unit, sheet(3)} {
			for _, two := range [][2]impl.Sheet{{bad, other}, {other, bad}} {
				s, ok := impl.PrintOf(two[0], two[1])
				checkNoSheet(t, "PrintOf", s, ok)
				s, ok = impl.LeastPresses(two[0], two[1])
				checkNoSheet(t, "LeastPresses", s, ok)
				s, n, ok := impl.FewestPresses(two[0], two[1])
				checkNoSheet(t, "FewestPresses", s, ok || n != 0)
				if can, ok := impl.CanToggle(two[0], two[1]); ok || can {
					t.Errorf("CanToggle(%v, %v) = %v, %v", two[0], two[1], can, ok)
				}
				if quiet, ok := impl.IsQuiet(two[0], two[1]); ok || quiet {
					t.Errorf("IsQuiet(%v, %v) = %v, %v", two[0], two[1], quiet, ok)
				}
			}
		}
	}
}

func TestTogglingModifiesNoArgument(t *testing.T) {
	backing := []impl.Sheet{sheet(3), sheet(1, 1), full, sheet(5), white, thirteen, unit, sheet(-1)}
	before := slices.Clone(backing)
	for n := range len(backing) + 1 {
		impl.QuietStamps(backing[:n])
		if !slices.Equal(backing, before) {
			t.Fatalf("QuietStamps of %d stamps left %v", n, backing)
		}
	}
}

func TestTogglingSameResultsAgain(t *testing.T) {
	for _, stamp := range []impl.Sheet{white, full, sheet(3), thirteen} {
		basis, _ := impl.KernelOf(stamp)
		first := slices.Clone(basis)
		longer := append(basis, full)
		for i := range longer {
			longer[i] = sheet(-1)
		}
		for i := range basis {
			basis[i] = sheet(-1)
		}
		if again, ok := impl.KernelOf(stamp); !ok || !slices.Equal(again, first) {
			t.Errorf("second KernelOf(%v) gives %v, %v", stamp, again, ok)
		}
	}
	for range 3 {
		if got, n, ok := impl.FewestPresses(sheet(3), sheet(33)); !ok || got != sheet(32) || n != 1 {
			t.Errorf("FewestPresses = %v, %d, %v", got, n, ok)
		}
	}
}
