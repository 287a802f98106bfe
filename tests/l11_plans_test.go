package tests

import (
	"fmt"
	"math"
	"math/rand"
	"regexp"
	"slices"
	"strings"
	"testing"

	"loop.example/g01220/impl"
)

// step makes a press of the stamp with a number at the cell x, y.
func step(kind, stamp, x, y int) impl.Step {
	return impl.Step{Kind: kind, Stamp: stamp, Cell: [2]int{x, y}}
}

func toggle(stamp, x, y int) impl.Step { return step(1, stamp, x, y) }

func ink(stamp, x, y int) impl.Step { return step(2, stamp, x, y) }

func wipe(stamp, x, y int) impl.Step { return step(3, stamp, x, y) }

func steps(list ...impl.Step) []impl.Step { return list }

func stamps(list ...impl.Sheet) []impl.Sheet { return list }

func planOf(start impl.Sheet, stamps []impl.Sheet, steps ...impl.Step) impl.Plan {
	return impl.Plan{Start: start, Stamps: stamps, Steps: steps}
}

// A nil slice and an empty one are equal.
func samePlan(p, q impl.Plan) bool {
	return p.Start == q.Start && slices.Equal(p.Stamps, q.Stamps) && slices.Equal(p.Steps, q.Steps)
}

func clonePlan(p impl.Plan) impl.Plan {
	return planOf(p.Start, slices.Clone(p.Stamps), slices.Clone(p.Steps)...)
}

// brief cuts what it tells of a long plan.
func brief(p impl.Plan) string {
	text := fmt.Sprint(p)
	return text[:min(len(text), 300)]
}

func startedAt(start impl.Sheet, p impl.Plan) impl.Plan { return planOf(start, p.Stamps, p.Steps...) }

// swapped exchanges the steps k and k + 1.
func swapped(p impl.Plan, k int) impl.Plan {
	q := clonePlan(p)
	q.Steps[k], q.Steps[k+1] = q.Steps[k+1], q.Steps[k]
	return q
}

// sheetsBy gives all sheets of a plan, by grids.
func sheetsBy(p impl.Plan) []impl.Sheet {
	all := []impl.Sheet{p.Start}
	g := gridOf(p.Start)
	for _, s := range p.Steps {
		g = each(g, gridOf(p.Stamps[s.Stamp]).moved(s.Cell[0], s.Cell[1]), presses()[s.Kind-1].rule)
		all = append(all, g.sheet())
	}
	return all
}

func endBy(p impl.Plan) impl.Sheet { return sheetsBy(p)[len(p.Steps)] }

func vainBy(p impl.Plan) []int {
	var vain []int
	sheets := sheetsBy(p)
	for k := range p.Steps {
		if sheets[k] == sheets[k+1] {
			vain = append(vain, k)
		}
	}
	return vain
}

// effectsBy puts the effects of the steps one behind the other: a toggle makes another one of each effect, an ink and a wipe make theirs of all.
func effectsBy(p impl.Plan) [6][6]int {
	var effects [6][6]int
	for _, s := range p.Steps {
		for _, cell := range gridOf(p.Stamps[s.Stamp]).moved(s.Cell[0], s.Cell[1]).cells() {
			effect := &effects[cell[1]][cell[0]]
			*effect = [][4]int{{1, 0, 3, 2}, {2, 2, 2, 2}, {3, 3, 3, 3}}[s.Kind-1][*effect]
		}
	}
	return effects
}

// toldBy gives the end that effects tell of a start.
func toldBy(effects [6][6]int, start impl.Sheet) impl.Sheet {
	g := gridOf(start)
	for _, cell := range allCells() {
		black := &g[cell[1]][cell[0]]
		*black = []bool{*black, !*black, true, false}[effects[cell[1]][cell[0]]]
	}
	return g.sheet()
}

func planTextBy(p impl.Plan) string {
	var words []string
	for _, s := range p.Steps {
		words = append(words, fmt.Sprintf("%c%d%d%d", " tiw"[s.Kind], s.Stamp, s.Cell[0], s.Cell[1]))
	}
	return strings.Join(words, " ")
}

// planStamps are lists of 1..4 stamps: small and wide ones, without black cells and with all, and some that are the same twice.
func planStamps() [][]impl.Sheet {
	return [][]impl.Sheet{stamps(unit), stamps(sheet(3), sheet(3)), stamps(white, full, unit), stamps(unit, sheet(3), sheet(1, 1), sheet(5)), stamps(sheet(63), sheet(1, 1, 1, 1, 1, 1), upperHalf, chessBoard),
		stamps(white, white), stamps(full), stamps(holed, uneven, holed, corners), stamps(sheet(7, 7, 7), white, sheet(7, 7, 7)), stamps(sheet(31, 31), diagonal)}
}

// A series of plans, by a fixed series of numbers: with 0..MaxSteps steps, of one kind or of all kinds, at all cells or at few of them.
func somePlans(n int) []impl.Plan {
	source := rand.New(rand.NewSource(11))
	lists, starts := planStamps(), someSheets(20)
	lengths := []int{0, 1, 2, 3, 4, 5, 6, 8, 12, 24, 39, 40}
	var all []impl.Plan
	for i := range n {
		p := planOf(starts[source.Intn(len(starts))], lists[i%len(lists)])
		kinds := [][]int{{1}, {2}, {3}, {1, 2, 3}, {1, 2, 3}, {2, 3}}[source.Intn(6)]
		wide := 1 + source.Intn(6)
		for range lengths[source.Intn(len(lengths))] {
			p.Steps = append(p.Steps, step(kinds[source.Intn(len(kinds))], source.Intn(len(p.Stamps)), source.Intn(wide), source.Intn(wide)))
		}
		all = append(all, p)
	}
	return append(all, impl.Plan{}, planOf(full, nil), planOf(uneven, stamps()), planOf(chessBoard, lists[3]))
}

// startsOfPlans have each cell in both colors.
func startsOfPlans() []impl.Sheet {
	return append(someSheets(6)[46:], white, full, chessBoard, uneven, holed, unit, corners)
}

// shortPlans are all those with at most two steps, of each kind and with few stamps at few cells.
func shortPlans() []impl.Plan {
	list := stamps(unit, sheet(3), white)
	all := []impl.Plan{planOf(white, list)}
	for range 2 {
		for _, p := range all {
			for kind := 1; kind <= 3; kind++ {
				for stamp := range list {
					for x := range 2 {
						all = append(all, planOf(uneven, list, append(slices.Clone(p.Steps), step(kind, stamp, x, 0))...))
					}
				}
			}
		}
	}
	return all
}

func TestLimitsOfPlans(t *testing.T) {
	if impl.StepToggle != 1 || impl.StepInk != 2 || impl.StepWipe != 3 || impl.MaxStamps != 4 || impl.MaxSteps != 40 {
		t.Error("limits", impl.StepToggle, impl.StepInk, impl.StepWipe, impl.MaxStamps, impl.MaxSteps)
	}
}

func badNumbers() []int {
	return []int{-1, -2, -4, -40, math.MinInt, math.MinInt + 1, math.MaxInt, math.MaxInt - 1, 1 << 32, -1 << 32}
}

// badSteps are not valid in a plan with a number of stamps.
func badSteps(stamps int) []impl.Step {
	bad := []impl.Step{{}, ink(stamps, 0, 0), toggle(stamps+1, 5, 5), wipe(4, 1, 1), step(4, -1, 6, 6)}
	for _, n := range append(badNumbers(), 1<<32+1) {
		bad = append(bad, step(n, 0, 0, 0), toggle(n, 0, 0), ink(n, 5, 5), wipe(n, 2, 3))
	}
	for _, kind := range []int{0, 4, 5, 105, 116, 119} {
		bad = append(bad, step(kind, 0, 0, 0), step(kind, 0, 5, 5))
	}
	for _, cell := range badCells() {
		bad = append(bad, toggle(0, cell[0], cell[1]), ink(0, cell[0], cell[1]), wipe(0, cell[0], cell[1]))
	}
	return bad
}

// badPlans have something that is not valid, at the first, at the last or at a middle place, or too much of it.
func badPlans() []impl.Plan {
	list := stamps(unit, sheet(3), full, white)
	good := steps(toggle(0, 1, 1), ink(1, 2, 2), wipe(2, 0, 0), toggle(3, 5, 5))
	var bad []impl.Plan
	for _, s := range badSheets() {
		bad = append(bad, planOf(s, nil), planOf(s, list, good...), planOf(white, stamps(s)), planOf(s, stamps(s)))
		for place := range list {
			other := slices.Clone(list)
			other[place] = s
			bad = append(bad, planOf(uneven, other), planOf(uneven, other, good...), planOf(white, other, toggle(0, 0, 0)))
		}
	}
	for _, n := range []int{1, 4} {
		for _, s := range badSteps(n) {
			bad = append(bad, planOf(white, list[:n], s), planOf(uneven, list[:n], s, toggle(0, 0, 0)), planOf(full, list[:n], ink(0, 1, 2), s, ink(0, 3, 2)), planOf(white, list[:n], append(slices.Repeat(good[:1], 39), s)...))
		}
	}
	bad = append(bad, planOf(white, nil, toggle(0, 0, 0)), planOf(full, stamps(), ink(0, 5, 5)), planOf(white, nil, good...), planOf(white, list[:2], good...), planOf(white, list[:3], good...))
	for _, n := range []int{5, 6, 8, 40, 1000} {
		bad = append(bad, planOf(white, slices.Repeat(stamps(unit), n)), planOf(white, slices.Repeat(stamps(unit), n), toggle(0, 0, 0)), planOf(white, slices.Repeat(stamps(white), n), toggle(4, 0, 0)))
	}
	for _, n := range []int{41, 42, 80, 256, 1000} {
		bad = append(bad, planOf(white, list, slices.Repeat(good[:1], n)...), planOf(white, list, slices.Repeat(good[3:], n)...), planOf(white, nil, slices.Repeat(good, n)...))
	}
	return append(bad, planOf(white, make([]impl.Sheet, 100000)), planOf(white, list, make([]impl.Step, 100000)...))
}

func TestIsPlan(t *testing.T) {
	list := stamps(unit, sheet(3), full, white)
	for _, p := range slices.Concat(somePlans(300), shortPlans(), []impl.Plan{{}, {Stamps: []impl.Sheet{}, Steps: []impl.Step{}}, planOf(full, nil), planOf(white, list), planOf(white, slices.Repeat(stamps(full), 4))}) {
		if !impl.IsPlan(p) {
			t.Errorf("IsPlan(%v) is false", p)
		}
	}
	for kind := -2; kind <= 6; kind++ {
		for stamp := -2; stamp <= 6; stamp++ {
			for n := range 5 {
				want := kind >= 1 && kind <= 3 && stamp >= 0 && stamp < n
				for _, p := range []impl.Plan{planOf(white, list[:n], step(kind, stamp, 5, 0)), planOf(white, list[:n], step(kind, stamp, 0, 5), step(kind, stamp, 0, 0))} {
					if impl.IsPlan(p) != want {
						t.Errorf("IsPlan(%v) is %v", p, !want)
					}
				}
			}
		}
	}
	for n := range 50 {
		for _, s := range []impl.Step{toggle(0, 0, 0), ink(3, 5, 5), wipe(2, 1, 4)} {
			if p := planOf(uneven, list, slices.Repeat(steps(s), n)...); impl.IsPlan(p) != (n <= 40) {
				t.Errorf("IsPlan of %d steps is wrong", n)
			}
		}
	}
	for n := range 9 {
		if p := planOf(uneven, slices.Repeat(stamps(uneven), n)); impl.IsPlan(p) != (n <= 4) {
			t.Errorf("IsPlan of %d stamps is wrong", n)
		}
	}
}

func TestBadPlansAreNone(t *testing.T) {
	for _, p := range badPlans() {
		if impl.IsPlan(p) {
			t.Fatalf("IsPlan(%s) is true", brief(p))
		}
	}
}

func checkSheetAt(t *testing.T, p impl.Plan, k int, want impl.Sheet) {
	t.Helper()
	if s, ok := impl.SheetAt(p, k); !ok || s != want {
		t.Errorf("SheetAt(%v, %d) = %v, %v, not %v", p, k, s, ok, want)
	}
}

func TestSheetAtAndEndOf(t *testing.T) {
	for _, c := range []struct {
		p    impl.Plan
		want []impl.Sheet
	}{
		{impl.Plan{}, stamps(white)},
		{planOf(uneven, nil), stamps(uneven)},
		{planOf(full, stamps(unit)), stamps(full)},
		{planOf(white, stamps(sheet(3)), toggle(0, 0, 0), ink(0, 1, 0), wipe(0, 2, 0)), stamps(white, sheet(3), sheet(7), sheet(3))},
		{planOf(white, stamps(sheet(3)), toggle(0, 5, 5), toggle(0, 0, 5), ink(0, 5, 5), wipe(0, 0, 5), toggle(0, 4, 5)), stamps(white, sheet(0, 0, 0, 0, 0, 33), sheet(0, 0, 0, 0, 0, 34), sheet(0, 0, 0, 0, 0, 35), sheet(0, 0, 0, 0, 0, 32), sheet(0, 0, 0, 0, 0, 16))},
		{planOf(full, stamps(unit, full), wipe(0, 0, 0), ink(0, 0, 0), toggle(1, 0, 0), ink(1, 3, 2), wipe(1, 1, 1)), stamps(full, holed, full, white, full, white)},
		{planOf(white, stamps(unit, sheet(0, 1), sheet(63), full), toggle(0, 0, 0), toggle(1, 0, 0), ink(2, 0, 3), wipe(3, 0, 0)), stamps(white, unit, sheet(1, 1), sheet(1, 1, 0, 63), white)},
		{planOf(unit, stamps(white), toggle(0, 0, 0), ink(0, 5, 5), wipe(0, 0, 0)), stamps(unit, unit, unit, unit)},
		{planOf(uneven, stamps(unit, unit), toggle(1, 0, 0), toggle(0, 0, 0), wipe(1, 1, 0), ink(0, 1, 0)), stamps(uneven, sheet(10, 1), uneven, sheet(9, 1), uneven)},
		{planOf(sheet(0, 0, 1), stamps(sheet(1, 2)), toggle(0, 2, 1), ink(0, 5, 2), wipe(0, 5, 5)), stamps(sheet(0, 0, 1), sheet(0, 4, 9), sheet(0, 4, 41, 1), sheet(0, 4, 41, 1))},
	} {
		for k, want := range c.want {
			checkSheetAt(t, c.p, k, want)
		}
		if end, ok := impl.EndOf(c.p); !ok || end != c.want[len(c.p.Steps)] {
			t.Errorf("EndOf(%v) = %v, %v", c.p, end, ok)
		}
	}
}

func TestSheetsOfAPlanWithMaxSteps(t *testing.T) {
	p := planOf(white, stamps(unit), slices.Repeat(steps(toggle(0, 4, 0)), 40)...)
	for k := range 41 {
		checkSheetAt(t, p, k, sheet(16*(k%2)))
	}
	if end, ok := impl.EndOf(p); !ok || end != white {
		t.Errorf("EndOf of forty steps = %v, %v", end, ok)
	}
}

func TestSheetsOfPlansAreThoseOfGrids(t *testing.T) {
	for _, p := range slices.Concat(somePlans(400), shortPlans()) {
		sheets := sheetsBy(p)
		for k, want := range sheets {
			checkSheetAt(t, p, k, want)
		}
		if end, ok := impl.EndOf(p); !ok || end != sheets[len(p.Steps)] {
			t.Fatalf("EndOf(%v) = %v, %v", p, end, ok)
		}
	}
}

func TestSheetsOfPlansAreMadeByPresses(t *testing.T) {
	for _, p := range somePlans(200) {
		for k, s := range p.Steps {
			before, one := impl.SheetAt(p, k)
			behind, two := impl.SheetAt(p, k+1)
			pressed, three := presses()[s.Kind-1].call(before, p.Stamps[s.Stamp], s.Cell)
			if !one || !two || !three || behind != pressed {
				t.Fatalf("SheetAt(%v, %d) = %v, behind %v", p, k+1, behind, before)
			}
		}
	}
}

func checkNoSheetAt(t *testing.T, p impl.Plan, k int) {
	t.Helper()
	s, ok := impl.SheetAt(p, k)
	checkNoSheet(t, "SheetAt", s, ok)
}

func TestSheetAtOfOtherNumbersFails(t *testing.T) {
	for _, p := range somePlans(60) {
		for _, k := range append(badNumbers(), len(p.Steps)+1, len(p.Steps)+2, 41, 42) {
			checkNoSheetAt(t, p, k)
		}
	}
}

func checkNoPlan(t *testing.T, name string, p impl.Plan, ok bool) {
	t.Helper()
	if ok || !samePlan(p, impl.Plan{}) {
		t.Errorf("%s = %v, %v", name, p, ok)
	}
}

func TestAddStep(t *testing.T) {
	list := stamps(unit, sheet(3), full, white)
	for kind := 1; kind <= 3; kind++ {
		for stamp := range list {
			p := planOf(uneven, list)
			for _, cell := range append(allCells(), allCells()[:4]...) {
				s := impl.Step{Kind: kind, Stamp: stamp, Cell: cell}
				want := planOf(uneven, list, append(slices.Clone(p.Steps), s)...)
				got, ok := impl.AddStep(p, s)
				if !ok || !samePlan(got, want) {
					t.Fatalf("AddStep(%v, %v) = %v, %v", p, s, got, ok)
				}
				p = got
			}
			got, ok := impl.AddStep(p, impl.Step{Kind: kind, Stamp: stamp})
			checkNoPlan(t, "AddStep to forty steps", got, ok)
		}
	}
}

func TestAddStepThatIsNotValidFails(t *testing.T) {
	list := stamps(unit, sheet(3), full, white)
	for n := range 5 {
		bad := badSteps(n)
		if n == 0 {
			bad = append(bad, toggle(0, 0, 0), ink(0, 5, 5), wipe(0, 1, 1))
		}
		for _, s := range bad {
			plans := []impl.Plan{planOf(white, list[:n])}
			if n > 0 {
				plans = append(plans, planOf(uneven, list[:n], toggle(0, 0, 0), ink(n-1, 1, 1)), planOf(white, list[:n], slices.Repeat(steps(wipe(0, 2, 2)), 39)...), planOf(white, list[:n], slices.Repeat(steps(wipe(0, 2, 2)), 40)...))
			}
			for _, p := range plans {
				got, ok := impl.AddStep(p, s)
				checkNoPlan(t, fmt.Sprintf("AddStep(%v, %v)", p, s), got, ok)
			}
		}
	}
}

func TestUndoSteps(t *testing.T) {
	list := stamps(unit, sheet(3))
	a, b, c := toggle(0, 0, 0), ink(1, 5, 2), wipe(0, 3, 3)
	p := planOf(uneven, list, a, b, c)
	for k, want := range [][]impl.Step{{a, b, c}, {a, b}, {a}, {}} {
		if got, ok := impl.UndoSteps(p, k); !ok || !samePlan(got, planOf(uneven, list, want...)) {
			t.Errorf("UndoSteps(%v, %d) = %v, %v", p, k, got, ok)
		}
	}
	for _, p := range []impl.Plan{{}, planOf(full, list)} {
		if got, ok := impl.UndoSteps(p, 0); !ok || !samePlan(got, p) {
			t.Errorf("UndoSteps(%v, 0) = %v, %v", p, got, ok)
		}
	}
	for _, p := range somePlans(120) {
		for k := range len(p.Steps) + 1 {
			n := len(p.Steps) - k
			got, one := impl.UndoSteps(p, k)
			if !one || !samePlan(got, planOf(p.Start, p.Stamps, p.Steps[:n]...)) {
				t.Fatalf("UndoSteps(%v, %d) = %v, %v", p, k, got, one)
			}
			end, two := impl.EndOf(got)
			if s, three := impl.SheetAt(p, n); !two || !three || end != s {
				t.Fatalf("the end of %v is %v, not %v", got, end, s)
			}
		}
	}
}

func TestUndoStepsOfOtherNumbersFails(t *testing.T) {
	for _, p := range somePlans(60) {
		for _, k := range append(badNumbers(), len(p.Steps)+1, len(p.Steps)+2, 41, 42) {
			got, ok := impl.UndoSteps(p, k)
			checkNoPlan(t, fmt.Sprintf("UndoSteps(%v, %d)", p, k), got, ok)
		}
	}
}

func TestUndoStepsOfOneUndoesAddStep(t *testing.T) {
	source := rand.New(rand.NewSource(111))
	undone := 0
	for _, p := range somePlans(300) {
		if len(p.Stamps) == 0 || len(p.Steps) == 40 {
			continue
		}
		for kind := 1; kind <= 3; kind++ {
			s := step(kind, source.Intn(len(p.Stamps)), source.Intn(6), source.Intn(6))
			longer, one := impl.AddStep(p, s)
			back, two := impl.UndoSteps(longer, 1)
			if !one || !two || len(longer.Steps) != len(p.Steps)+1 || longer.Steps[len(p.Steps)] != s || !samePlan(back, p) {
				t.Fatalf("AddStep(%v, %v) = %v, %v, and back to %v, %v", p, s, longer, one, back, two)
			}
			undone++
		}
	}
	if undone < 600 {
		t.Errorf("just %d steps of the test are undone", undone)
	}
}

func TestVainStepsAndDropVain(t *testing.T) {
	list := stamps(unit, white, full, sheet(3))
	for _, c := range []struct {
		start impl.Sheet
		steps []impl.Step
		want  []int
	}{
		{sheet(3), nil, nil},
		{white, nil, nil},
		{sheet(3), steps(ink(0, 0, 0)), []int{0}},
		{sheet(3), steps(ink(0, 2, 0)), nil},
		{white, steps(ink(0, 0, 0)), nil},
		{sheet(3), steps(wipe(0, 2, 0)), []int{0}},
		{sheet(3), steps(wipe(0, 1, 0)), nil},
		{sheet(3), steps(ink(3, 0, 0)), []int{0}},
		{sheet(3), steps(ink(3, 1, 0)), nil},
		{sheet(3), steps(wipe(3, 1, 0)), nil},
		{sheet(3), steps(wipe(3, 2, 0)), []int{0}},
		{sheet(3), steps(toggle(1, 0, 0)), []int{0}},
		{full, steps(ink(1, 3, 3)), []int{0}},
		{full, steps(wipe(1, 5, 5)), []int{0}},
		{full, steps(ink(2, 3, 3)), []int{0}},
		{full, steps(wipe(2, 3, 3)), nil},
		{white, steps(wipe(2, 3, 3)), []int{0}},
		{white, steps(toggle(2, 3, 3), toggle(2, 3, 3)), nil},
		{white, steps(toggle(0, 1, 1), toggle(0, 1, 1)), nil},
		{sheet(3), steps(ink(0, 0, 0), toggle(0, 0, 0), ink(0, 0, 0)), []int{0}},
		{sheet(3), steps(toggle(0, 0, 0), wipe(0, 0, 0)), []int{1}},
		{sheet(3), steps(toggle(0, 2, 0), ink(0, 2, 0), toggle(0, 2, 0)), []int{1}},
		{sheet(3), steps(ink(0, 2, 0), ink(0, 2, 0), wipe(0, 3, 0), toggle(1, 4, 0), toggle(0, 0, 0)), []int{1, 2, 3}},
		{sheet(3), steps(ink(0, 0, 0), ink(0, 1, 0), toggle(0, 0, 0), wipe(0, 1, 0), wipe(0, 0, 0), wipe(0, 1, 0)), []int{0, 1, 4, 5}},
		{sheet(3), steps(ink(0, 0, 0), wipe(0, 2, 0), toggle(1, 0, 0)), []int{0, 1, 2}},
		{sheet(3), steps(ink(2, 0, 0), ink(0, 4, 4), wipe(2, 0, 0), wipe(3, 4, 4), toggle(2, 0, 0), ink(3, 5, 5)), []int{1, 3, 5}},
		{uneven, slices.Repeat(steps(toggle(1, 2, 3)), 40), placesBelow(40)},
		{uneven, append(slices.Repeat(steps(toggle(1, 2, 3)), 39), toggle(0, 0, 0)), placesBelow(39)},
	} {
		p := planOf(c.start, list, c.steps...)
		if vain, ok := impl.VainSteps(p); !ok || !slices.Equal(vain, c.want) {
			t.Errorf("VainSteps(%v) = %v, %v, not %v", p, vain, ok, c.want)
		}
		checkDropped(t, p, c.want)
	}
}

// checkDropped asks DropVain for the plan without just the steps at some places.
func checkDropped(t *testing.T, p impl.Plan, vain []int) {
	t.Helper()
	want := planOf(p.Start, p.Stamps)
	for k, s := range p.Steps {
		if !slices.Contains(vain, k) {
			want.Steps = append(want.Steps, s)
		}
	}
	if rest, ok := impl.DropVain(p); !ok || !samePlan(rest, want) {
		t.Errorf("DropVain(%v) = %v, %v, not %v", p, rest, ok, want)
	}
}

func TestVainStepsAreThoseOfGrids(t *testing.T) {
	none, some, all := 0, 0, 0
	for _, p := range slices.Concat(somePlans(600), shortPlans()) {
		want := vainBy(p)
		if vain, ok := impl.VainSteps(p); !ok || !slices.Equal(vain, want) {
			t.Fatalf("VainSteps(%v) = %v, %v, not %v", p, vain, ok, want)
		}
		checkDropped(t, p, want)
		switch len(want) {
		case 0:
			none++
		case len(p.Steps):
			all++
		default:
			some++
		}
	}
	if none < 50 || some < 50 || all < 50 {
		t.Errorf("just %d plans of the test have no vain step, %d some and %d vain ones only", none, some, all)
	}
}

func TestDropVainKeepsTheEnd(t *testing.T) {
	for _, p := range slices.Concat(somePlans(400), shortPlans()) {
		rest, one := impl.DropVain(p)
		end, two := impl.EndOf(p)
		again, three := impl.EndOf(rest)
		vain, four := impl.VainSteps(rest)
		if !one || !two || !three || !four || again != end || len(vain) != 0 {
			t.Fatalf("DropVain(%v) = %v, with the end %v and the vain steps %v, not %v", p, rest, again, vain, end)
		}
	}
}

func TestEffectsOf(t *testing.T) {
	list := stamps(unit, sheet(63), full, white)
	for _, c := range []struct {
		steps []impl.Step
		want  impl.Picture
	}{
		{nil, picture()},
		{steps(toggle(0, 0, 0)), picture("1")},
		{steps(ink(0, 0, 0)), picture("2")},
		{steps(wipe(0, 0, 0)), picture("3")},
		{steps(toggle(0, 4, 1)), picture("", "00001")},
		{steps(ink(0, 1, 4)), picture("", "", "", "", "02")},
		{steps(wipe(0, 5, 0)), picture("000003")},
		{steps(wipe(0, 0, 5)), picture("", "", "", "", "", "3")},
		{steps(toggle(0, 5, 5)), picture("", "", "", "", "", "000001")},
		{steps(toggle(2, 3, 1)), filledWith(1)},
		{steps(ink(2, 3, 1)), filledWith(2)},
		{steps(wipe(2, 3, 1)), filledWith(3)},
		{steps(toggle(3, 0, 0), ink(3, 1, 1), wipe(3, 5, 2)), picture()},
		{steps(toggle(0, 0, 0), toggle(0, 0, 0)), picture()},
		{steps(toggle(0, 0, 0), toggle(0, 0, 0), toggle(0, 0, 0)), picture("1")},
		{steps(ink(0, 0, 0), toggle(0, 0, 0)), picture("3")},
		{steps(wipe(0, 0, 0), toggle(0, 0, 0)), picture("2")},
		{steps(toggle(0, 0, 0), ink(0, 0, 0)), picture("2")},
		{steps(toggle(0, 0, 0), wipe(0, 0, 0)), picture("3")},
		{steps(ink(0, 0, 0), wipe(0, 0, 0)), picture("3")},
		{steps(wipe(0, 0, 0), ink(0, 0, 0)), picture("2")},
		{steps(ink(0, 0, 0), toggle(0, 0, 0), toggle(0, 0, 0)), picture("2")},
		{steps(toggle(2, 0, 0), toggle(2, 5, 5)), picture()},
		{steps(toggle(0, 1, 0), ink(0, 2, 0), wipe(0, 3, 0)), picture("0123")},
		{steps(toggle(1, 0, 1), ink(1, 3, 2), wipe(1, 0, 3)), picture("", "111111", "222222", "333333")},
		{steps(toggle(1, 0, 1), toggle(0, 2, 1), ink(1, 0, 2), toggle(0, 3, 2), wipe(0, 4, 1), ink(0, 5, 0), toggle(1, 0, 5), toggle(1, 2, 5)), picture("000002", "110131", "222322")},
		{steps(toggle(2, 0, 0), ink(1, 0, 0), wipe(1, 0, 5), toggle(0, 2, 2)), picture("222222", "111111", "110111", "111111", "111111", "333333")},
		{slices.Repeat(steps(toggle(0, 1, 1)), 39), picture("", "01")},
		{slices.Repeat(steps(toggle(0, 1, 1)), 40), picture()},
	} {
		for _, start := range []impl.Sheet{white, full, uneven, chessBoard} {
			p := planOf(start, list, c.steps...)
			if effects, ok := impl.EffectsOf(p); !ok || effects != c.want.Cells {
				t.Errorf("EffectsOf(%v) = %v, %v, not %v", p, effects, ok, c.want.Cells)
			}
		}
	}
	if effects, ok := impl.EffectsOf(impl.Plan{}); !ok || effects != [6][6]int{} {
		t.Errorf("EffectsOf the plan without stamps = %v, %v", effects, ok)
	}
}

func TestEffectsTellTheEndOfEachStart(t *testing.T) {
	starts := startsOfPlans()
	var seen [4]int
	for _, p := range slices.Concat(somePlans(400), shortPlans()) {
		effects, one := impl.EffectsOf(p)
		if !one || effects != effectsBy(p) {
			t.Fatalf("EffectsOf(%v) = %v, %v, not %v", p, effects, one, effectsBy(p))
		}
		for _, start := range starts {
			q := startedAt(start, p)
			end, two := impl.EndOf(q)
			if again, three := impl.EffectsOf(q); !two || !three || end != toldBy(effects, start) || again != effects {
				t.Fatalf("the end of %v is %v, not as %v tells", q, end, effects)
			}
		}
		for _, cell := range allCells() {
			seen[effects[cell[1]][cell[0]]]++
		}
	}
	if slices.Min(seen[:]) < 500 {
		t.Error("the effects of the test are just so many", seen)
	}
}

// Each start tells of one color of each cell only; both colors together leave one effect.
func TestEffectsAreThoseOfAllStarts(t *testing.T) {
	for _, p := range somePlans(200) {
		effects, ok := impl.EffectsOf(p)
		for _, cell := range allCells() {
			could := []bool{true, true, true, true}
			for _, start := range startsOfPlans() {
				was, is := gridOf(start)[cell[1]][cell[0]], gridOf(endBy(startedAt(start, p)))[cell[1]][cell[0]]
				could = []bool{could[0] && is == was, could[1] && is != was, could[2] && is, could[3] && !is}
			}
			want := slices.Index(could, true)
			if !ok || effects[cell[1]][cell[0]] != want {
				t.Fatalf("EffectsOf(%v) at %v is %d, not %d", p, cell, effects[cell[1]][cell[0]], want)
			}
		}
	}
}

func TestEffectsOfAStepWhereTheStampIsWhite(t *testing.T) {
	lists := append(planStamps(), stamps(unit), stamps(sheet(1, 0, 0, 4)), stamps(thirteen))
	for _, list := range lists {
		for stamp := range list {
			for kind := 1; kind <= 3; kind++ {
				for _, cell := range allCells() {
					p := planOf(uneven, list, impl.Step{Kind: kind, Stamp: stamp, Cell: cell})
					effects, ok := impl.EffectsOf(p)
					black := gridOf(shiftedTo(list[stamp], cell))
					for _, at := range allCells() {
						want := 0
						if black[at[1]][at[0]] {
							want = kind
						}
						if got := effects[at[1]][at[0]]; !ok || got != want {
							t.Fatalf("EffectsOf(%v) at %v is %d, %v", p, at, got, ok)
						}
					}
				}
			}
		}
	}
}

func checkSame(t *testing.T, p, q impl.Plan, want bool) {
	t.Helper()
	if same, ok := impl.SameEffects(p, q); !ok || same != want {
		t.Fatalf("SameEffects(%v, %v) = %v, %v", p, q, same, ok)
	}
}

func TestSameEffects(t *testing.T) {
	list, others := stamps(unit, sheet(3), white), stamps(full, sheet(3), unit, unit)
	for _, c := range []struct {
		p, q impl.Plan
		want bool
	}{
		{impl.Plan{}, impl.Plan{}, true},
		{impl.Plan{}, planOf(full, list), true},
		{planOf(white, list, toggle(2, 0, 0)), impl.Plan{}, true},
		{planOf(white, list, toggle(0, 0, 0)), impl.Plan{}, false},
		{planOf(white, list, ink(0, 0, 0)), impl.Plan{}, false},
		{planOf(full, list, ink(0, 0, 0)), planOf(full, nil), false},
		{planOf(white, list, wipe(0, 0, 0)), planOf(white, nil), false},
		{planOf(white, list, toggle(0, 0, 0)), planOf(white, list, ink(0, 0, 0)), false},
		{planOf(full, list, toggle(0, 0, 0)), planOf(full, list, wipe(0, 0, 0)), false},
		{planOf(full, list, ink(0, 0, 0)), planOf(full, list, wipe(0, 0, 0)), false},
		{planOf(white, list, toggle(0, 0, 0)), planOf(full, others, toggle(2, 0, 0)), true},
		{planOf(white, list, toggle(0, 0, 0)), planOf(full, others, toggle(3, 0, 0)), true},
		{planOf(white, list, toggle(1, 0, 0)), planOf(full, others, toggle(1, 0, 0)), true},
		{planOf(white, list, toggle(1, 0, 0)), planOf(white, others, toggle(2, 0, 0), toggle(3, 1, 0)), true},
		{planOf(white, list, toggle(1, 5, 0)), planOf(white, others, toggle(2, 0, 0), toggle(3, 5, 0)), true},
		{planOf(white, list, toggle(1, 0, 0)), planOf(white, others, toggle(2, 0, 0), toggle(3, 0, 1)), false},
		{planOf(white, list, toggle(0, 1, 0)), planOf(white, list, toggle(0, 0, 1)), false},
		{planOf(white, list, toggle(0, 5, 5)), planOf(white, list, toggle(0, 0, 0)), false},
		{planOf(white, list, ink(0, 3, 3), toggle(0, 3, 3)), planOf(white, list, wipe(0, 3, 3)), true},
		{planOf(white, list, wipe(0, 3, 3), toggle(0, 3, 3)), planOf(full, list, ink(0, 3, 3)), true},
		{planOf(white, others, toggle(0, 0, 0), wipe(0, 0, 0)), planOf(full, others, wipe(0, 3, 3)), true},
		{planOf(white, others, toggle(0, 0, 0)), planOf(white, others, toggle(0, 4, 1)), true},
		{planOf(white, list, slices.Repeat(steps(toggle(1, 2, 2)), 40)...), planOf(full, nil), true},
		{planOf(white, list, slices.Repeat(steps(toggle(1, 2, 2)), 39)...), planOf(white, list, toggle(1, 2, 2)), true},
		{planOf(white, list, slices.Repeat(steps(toggle(1, 2, 2)), 39)...), planOf(white, nil), false},
	} {
		checkSame(t, c.p, c.q, c.want)
		checkSame(t, c.q, c.p, c.want)
	}
}

// endsOf gives the ends of a plan with many starts.
func endsOf(p impl.Plan) []impl.Sheet {
	var ends []impl.Sheet
	for _, start := range startsOfPlans() {
		ends = append(ends, endBy(startedAt(start, p)))
	}
	return ends
}

func TestPlansWithTheSameEffectsHaveTheSameEnds(t *testing.T) {
	same, others := 0, 0
	check := func(plans []impl.Plan) {
		var ends [][]impl.Sheet
		for _, p := range plans {
			ends = append(ends, endsOf(p))
		}
		for i, p := range plans {
			for j, q := range plans {
				want := slices.Equal(ends[i], ends[j])
				checkSame(t, p, q, want)
				if want && i != j {
					same++
				}
				if !want {
					others++
				}
			}
		}
	}
	check(shortPlans())
	check(somePlans(120))
	for _, p := range somePlans(60) {
		more, _ := impl.AddStep(p, toggle(0, 0, 0))
		rest, _ := impl.DropVain(p)
		check([]impl.Plan{p, more, rest, startedAt(white, p), startedAt(full, rest)})
	}
	if same < 5000 || others < 50000 {
		t.Errorf("just %d pairs of the test have the same effects, and %d others", same, others)
	}
}

func checkSwap(t *testing.T, p impl.Plan, k int, want bool) {
	t.Helper()
	if can, ok := impl.CanSwap(p, k); !ok || can != want {
		t.Errorf("CanSwap(%v, %d) = %v, %v", p, k, can, ok)
	}
}

func TestCanSwap(t *testing.T) {
	list := stamps(unit, sheet(3), white, full)
	for _, c := range []struct {
		steps []impl.Step
		want  []bool
	}{
		{steps(toggle(0, 0, 0), toggle(0, 0, 0)), []bool{true}},
		{steps(toggle(0, 0, 0), toggle(1, 0, 0)), []bool{true}},
		{steps(toggle(3, 0, 0), toggle(1, 0, 0)), []bool{true}},
		{steps(ink(1, 0, 0), ink(1, 1, 0)), []bool{true}},
		{steps(wipe(1, 0, 0), wipe(3, 1, 0)), []bool{true}},
		{steps(toggle(0, 0, 0), ink(0, 0, 0)), []bool{false}},
		{steps(ink(0, 0, 0), toggle(0, 0, 0)), []bool{false}},
		{steps(toggle(0, 0, 0), wipe(0, 0, 0)), []bool{false}},
		{steps(wipe(0, 0, 0), toggle(0, 0, 0)), []bool{false}},
		{steps(ink(0, 0, 0), wipe(0, 0, 0)), []bool{false}},
		{steps(wipe(0, 0, 0), ink(0, 0, 0)), []bool{false}},
		{steps(ink(0, 0, 0), wipe(0, 1, 0)), []bool{true}},
		{steps(ink(1, 0, 0), wipe(0, 1, 0)), []bool{false}},
		{steps(ink(1, 5, 0), wipe(0, 0, 0)), []bool{false}},
		{steps(ink(1, 5, 0), wipe(0, 1, 0)), []bool{true}},
		{steps(ink(3, 0, 0), toggle(2, 0, 0)), []bool{true}},
		{steps(wipe(3, 0, 0), ink(2, 0, 0)), []bool{true}},
		{steps(ink(3, 0, 0), wipe(3, 5, 5)), []bool{false}},
		{steps(ink(0, 0, 0), toggle(0, 0, 0), wipe(0, 0, 0)), []bool{true, false}},
		{steps(wipe(0, 0, 0), ink(0, 0, 0), toggle(0, 0, 0), toggle(0, 0, 0)), []bool{false, false, true}},
		{steps(toggle(0, 2, 0), ink(0, 2, 0), toggle(0, 3, 3), wipe(3, 0, 0)), []bool{true, true, false}},
		{steps(ink(3, 0, 0), toggle(0, 1, 1), wipe(1, 1, 1)), []bool{true, false}},
		{steps(ink(3, 0, 0), toggle(0, 1, 1), wipe(1, 2, 1)), []bool{false, true}},
	} {
		for _, start := range []impl.Sheet{white, full, chessBoard} {
			for k, want := range c.want {
				checkSwap(t, planOf(start, list, c.steps...), k, want)
			}
		}
	}
	long := planOf(white, list, slices.Repeat(steps(toggle(0, 0, 0), toggle(1, 3, 3)), 20)...)
	long.Steps[39] = ink(0, 0, 0)
	long.Steps[38] = ink(3, 0, 0)
	for k := range 39 {
		// All that is before the full ink does not matter, but the toggle that would come behind it.
		checkSwap(t, long, k, k != 37)
	}
}

func TestStepsCanBeSwappedWhereTheEffectsAreTheSame(t *testing.T) {
	can, cannot := 0, 0
	for _, p := range slices.Concat(somePlans(400), shortPlans()) {
		for k := range len(p.Steps) - 1 {
			want := slices.Equal(endsOf(p), endsOf(swapped(p, k)))
			checkSwap(t, p, k, want)
			checkSwap(t, swapped(p, k), k, want)
			if want {
				can++
			} else {
				cannot++
			}
		}
	}
	if can < 1000 || cannot < 200 {
		t.Errorf("just %d pairs of steps of the test can be swapped, and %d cannot", can, cannot)
	}
}

func checkNoSwap(t *testing.T, p impl.Plan, k int) {
	t.Helper()
	if can, ok := impl.CanSwap(p, k); ok || can {
		t.Errorf("CanSwap(%s, %d) = %v, %v", brief(p), k, can, ok)
	}
}

func TestStepsThatAreNotThereCannotBeSwapped(t *testing.T) {
	for _, p := range somePlans(120) {
		for _, k := range append(badNumbers(), len(p.Steps)-1, len(p.Steps), len(p.Steps)+1, 39, 40) {
			checkNoSwap(t, p, k)
		}
	}
	list := stamps(unit)
	for k := -2; k <= 2; k++ {
		checkNoSwap(t, planOf(white, list), k)
		checkNoSwap(t, planOf(white, list, toggle(0, 0, 0)), k)
		checkNoSwap(t, impl.Plan{}, k)
	}
}

func TestBackPlan(t *testing.T) {
	list := stamps(sheet(3), unit, white, full)
	a, b, c, d := toggle(0, 0, 0), toggle(1, 5, 5), toggle(2, 1, 2), toggle(3, 4, 4)
	for _, c := range []struct{ p, want impl.Plan }{
		{impl.Plan{}, impl.Plan{}},
		{planOf(uneven, nil), planOf(uneven, nil)},
		{planOf(full, list), planOf(full, list)},
		{planOf(white, list, a), planOf(sheet(3), list, a)},
		{planOf(sheet(3), list, a), planOf(white, list, a)},
		{planOf(white, list, c), planOf(white, list, c)},
		{planOf(white, list, a, b), planOf(sheet(3, 0, 0, 0, 0, 32), list, b, a)},
		{planOf(unit, list, a, b, c), planOf(sheet(2, 0, 0, 0, 0, 32), list, c, b, a)},
		{planOf(full, list, d, a, a, b, d), planOf(sheet(63, 63, 63, 63, 63, 31), list, d, b, a, a, d)},
		{planOf(white, list, slices.Repeat(steps(a, d), 20)...), planOf(white, list, slices.Repeat(steps(d, a), 20)...)},
	} {
		if back, ok := impl.BackPlan(c.p); !ok || !samePlan(back, c.want) {
			t.Errorf("BackPlan(%v) = %v, %v, not %v", c.p, back, ok, c.want)
		}
	}
}

func TestPlansOfTogglesGoBack(t *testing.T) {
	gone := 0
	for _, p := range slices.Concat(somePlans(600), shortPlans()) {
		back, one := impl.BackPlan(p)
		if slices.ContainsFunc(p.Steps, func(s impl.Step) bool { return s.Kind != 1 }) {
			checkNoPlan(t, fmt.Sprintf("BackPlan(%v)", p), back, one)
			continue
		}
		end, two := impl.EndOf(p)
		start, three := impl.EndOf(back)
		again, four := impl.BackPlan(back)
		if !one || !two || !three || !four || back.Start != end || start != p.Start || !samePlan(again, p) || !slices.Equal(back.Stamps, p.Stamps) {
			t.Fatalf("BackPlan(%v) = %v, %v, which ends at %v and goes back by %v", p, back, one, start, again)
		}
		for k := range len(p.Steps) + 1 {
			there, one := impl.SheetAt(p, k)
			if s, two := impl.SheetAt(back, len(p.Steps)-k); !one || !two || s != there {
				t.Fatalf("%v does not go back over %v", back, there)
			}
		}
		gone += len(p.Steps)
	}
	if gone < 500 {
		t.Errorf("just %d steps of the test go back", gone)
	}
}

func TestPlansWithOtherStepsDoNotGoBack(t *testing.T) {
	list := stamps(sheet(3), white)
	for _, n := range []int{1, 2, 3, 7, 40} {
		for k := range n {
			for _, other := range []impl.Step{ink(0, 0, 0), wipe(0, 0, 0), ink(1, 0, 0), wipe(1, 5, 5)} {
				// The inks and wipes of the stamp without black cells are vain, but do not toggle.
				for _, start := range []impl.Sheet{white, full} {
					p := planOf(start, list, slices.Repeat(steps(toggle(0, 0, 0)), n)...)
					p.Steps[k] = other
					back, ok := impl.BackPlan(p)
					checkNoPlan(t, fmt.Sprintf("BackPlan(%v)", p), back, ok)
				}
			}
		}
	}
}

func TestJoinPlans(t *testing.T) {
	list := stamps(unit, sheet(3))
	a, b, c := toggle(0, 0, 0), ink(1, 5, 2), wipe(0, 3, 3)
	for _, r := range []struct{ p, q, want impl.Plan }{
		{impl.Plan{}, impl.Plan{}, impl.Plan{}},
		{planOf(unit, nil), planOf(full, stamps()), planOf(unit, nil)},
		{planOf(unit, list), planOf(full, list), planOf(unit, list)},
		{planOf(unit, list, a), planOf(full, list), planOf(unit, list, a)},
		{planOf(unit, list), planOf(full, list, a), planOf(unit, list, a)},
		{planOf(uneven, list, a), planOf(full, list, b), planOf(uneven, list, a, b)},
		{planOf(full, list, b, a), planOf(uneven, list, c, a), planOf(full, list, b, a, c, a)},
		{planOf(white, list, a, b, c), planOf(white, list, a, b, c), planOf(white, list, a, b, c, a, b, c)},
		{planOf(white, stamps(unit, unit), a), planOf(white, stamps(unit, unit), a), planOf(white, stamps(unit, unit), a, a)},
	} {
		if joined, ok := impl.JoinPlans(r.p, r.q); !ok || !samePlan(joined, r.want) {
			t.Errorf("JoinPlans(%v, %v) = %v, %v", r.p, r.q, joined, ok)
		}
	}
}

func checkNotJoined(t *testing.T, p, q impl.Plan) {
	t.Helper()
	if joined, ok := impl.JoinPlans(p, q); ok || !samePlan(joined, impl.Plan{}) {
		t.Errorf("JoinPlans(%s, %s) = %v, %v", brief(p), brief(q), joined, ok)
	}
}

func TestPlansWithOtherStampsAreNotJoined(t *testing.T) {
	a := toggle(0, 0, 0)
	lists := [][]impl.Sheet{stamps(), stamps(unit), stamps(white), stamps(full), stamps(sheet(3)), stamps(unit, unit), stamps(unit, sheet(3)), stamps(sheet(3), unit), stamps(unit, white), stamps(unit, sheet(3), full), stamps(full, sheet(3), unit),
		stamps(unit, full, sheet(3)), stamps(unit, sheet(3), full, white), stamps(unit, sheet(3), full, full), stamps(white, sheet(3), full, unit), stamps(sheet(3, 0, 0, 0, 0, 1), unit)}
	for i, list := range lists {
		for j, other := range lists {
			if i == j {
				continue
			}
			checkNotJoined(t, planOf(white, list), planOf(white, other))
			if i > 0 && j > 0 {
				checkNotJoined(t, planOf(white, list, a), planOf(white, other, a))
				checkNotJoined(t, planOf(white, list), planOf(white, other, a))
				checkNotJoined(t, planOf(white, list, a), planOf(white, other))
			}
		}
	}
}

func TestPlansWithTooManyStepsAreNotJoined(t *testing.T) {
	list := stamps(unit, sheet(3), white)
	a, b := toggle(0, 1, 2), ink(1, 5, 5)
	for m := range 41 {
		for n := range 41 {
			p, q := planOf(unit, list, slices.Repeat(steps(a), m)...), planOf(full, list, slices.Repeat(steps(b), n)...)
			if m+n > 40 {
				checkNotJoined(t, p, q)
				continue
			}
			want := planOf(unit, list, append(slices.Repeat(steps(a), m), slices.Repeat(steps(b), n)...)...)
			if joined, ok := impl.JoinPlans(p, q); !ok || !samePlan(joined, want) {
				t.Fatalf("JoinPlans of %d and %d steps = %v, %v", m, n, joined, ok)
			}
		}
	}
}

func TestJoinedPlansGoOnFromTheEnd(t *testing.T) {
	joined, plans := 0, somePlans(400)
	for i, p := range plans {
		for j := i % 10; j < len(plans); j += 10 {
			q := plans[j]
			if !slices.Equal(p.Stamps, q.Stamps) || len(p.Steps)+len(q.Steps) > 40 {
				checkNotJoined(t, p, q)
				continue
			}
			both, one := impl.JoinPlans(p, q)
			want, two := impl.EndOf(startedAt(endBy(p), q))
			end, three := impl.EndOf(both)
			if !one || !two || !three || end != want {
				t.Fatalf("JoinPlans(%v, %v) = %v, %v, with the end %v, not %v", p, q, both, one, end, want)
			}
			joined++
		}
	}
	if joined < 1000 {
		t.Errorf("just %d pairs of plans of the test are joined", joined)
	}
}

func TestPlanTextAndParseSteps(t *testing.T) {
	list := stamps(unit, sheet(3), full, white)
	for _, c := range []struct {
		steps []impl.Step
		want  string
	}{
		{nil, ""},
		{steps(toggle(0, 0, 0)), "t000"},
		{steps(ink(1, 2, 3)), "i123"},
		{steps(wipe(3, 5, 4)), "w354"},
		{steps(wipe(2, 5, 0)), "w250"},
		{steps(toggle(2, 0, 5)), "t205"},
		{steps(toggle(0, 0, 0), ink(0, 1, 0), wipe(0, 2, 0)), "t000 i010 w020"},
		{steps(wipe(3, 5, 5), wipe(3, 5, 5)), "w355 w355"},
		{slices.Repeat(steps(ink(1, 4, 3)), 39), strings.Repeat("i143 ", 38) + "i143"},
		{append(slices.Repeat(steps(ink(1, 4, 3)), 39), toggle(0, 0, 5)), strings.Repeat("i143 ", 39) + "t005"},
	} {
		for _, start := range []impl.Sheet{white, full} {
			if text, ok := impl.PlanText(planOf(start, list, c.steps...)); !ok || text != c.want {
				t.Errorf("PlanText of %v = %q, %v", c.steps, text, ok)
			}
		}
		if parsed, ok := impl.ParseSteps(c.want); !ok || !slices.Equal(parsed, c.steps) {
			t.Errorf("ParseSteps(%q) = %v, %v", c.want, parsed, ok)
		}
	}
	if text, ok := impl.PlanText(impl.Plan{}); !ok || text != "" {
		t.Errorf("PlanText of the plan without stamps = %q, %v", text, ok)
	}
}

func TestStepsOfEachText(t *testing.T) {
	list := stamps(unit, sheet(3), full, white)
	for kind := 1; kind <= 3; kind++ {
		for stamp := range 4 {
			for _, cell := range allCells() {
				s := impl.Step{Kind: kind, Stamp: stamp, Cell: cell}
				p := planOf(white, list[:stamp+1], s)
				text, one := impl.PlanText(p)
				if parsed, two := impl.ParseSteps(text); !one || !two || text != planTextBy(p) || !slices.Equal(parsed, p.Steps) {
					t.Errorf("PlanText(%v) = %q, %v, and ParseSteps %v, %v", p, text, one, parsed, two)
				}
			}
		}
	}
}

func TestParseStepsTellsTheStepsAgain(t *testing.T) {
	for _, p := range slices.Concat(somePlans(400), shortPlans()) {
		text, one := impl.PlanText(p)
		parsed, two := impl.ParseSteps(text)
		if !one || !two || text != planTextBy(p) || !slices.Equal(parsed, p.Steps) {
			t.Fatalf("PlanText(%v) = %q, %v, and ParseSteps %v, %v", p, text, one, parsed, two)
		}
	}
}

// checkParsed asks ParseSteps for just the texts of 0..40 steps.
func checkParsed(t *testing.T, text string, isText *regexp.Regexp) {
	t.Helper()
	parsed, ok := impl.ParseSteps(text)
	if ok != isText.MatchString(text) || !ok && len(parsed) != 0 {
		t.Fatalf("ParseSteps(%q) = %v, %v", text, parsed, ok)
	}
	if p := planOf(white, make([]impl.Sheet, 4), parsed...); ok && planTextBy(p) != text {
		t.Fatalf("ParseSteps(%q) = %v", text, parsed)
	}
}

func textOfSteps() *regexp.Regexp {
	return regexp.MustCompile(`\A([tiw][0-3][0-5][0-5]( [tiw][0-3][0-5][0-5]){0,39})?\z`)
}

func TestParseStepsTakesNothingElse(t *testing.T) {
	for _, text := range []string{
		" ", "  ", "\n", "\x00", "t", "t0", "t00", "t0000", "t00 0", "000", "0000", "000t", "tttt", "t00t", " t000", "t000 ", "t000  i000", "t000 i000 ", " t000 i000", "t000\ti000", "t000\n", "t000\ni000", "t000,i000", "t000i000", "t000 i00", "t00 i000",
		"T000", "I000", "W000", "x000", "s000", "u000", "v000", "h000", "j000", "1000", "2000", "-000", "t400", "t900", "t/00", "t:00", "t060", "t090", "t006", "t009", "t0-1", "t-10", "t+00", "t00.", "t0 0", "t000 t400", "t400 t000", "t000 t006 t000", "t000 x000 t000", "tt000", "t000t",
		"t01 00", "t0100", "t000 000", "none", "é00", "t\xff00", "t٣00", strings.Repeat("t", 4000), strings.Repeat(" ", 4000), strings.Repeat(" ", 4001), strings.Repeat("t000 ", 1000000),
	} {
		if parsed, ok := impl.ParseSteps(text); ok || len(parsed) != 0 {
			t.Errorf("ParseSteps(%.40q) = %v, %v", text, parsed, ok)
		}
	}
	isText := textOfSteps()
	for _, text := range append(textsOver("ti0136 ", 5), textsOver("tiw02345/:- ", 4)...) {
		checkParsed(t, text, isText)
		checkParsed(t, "w355 "+text, isText)
		checkParsed(t, text+" w000", isText)
	}
	for n := range 100 {
		checkParsed(t, strings.TrimSuffix(strings.Repeat("t123 ", n), " "), isText)
		checkParsed(t, strings.Repeat("t123 ", n), isText)
		checkParsed(t, strings.Repeat("t123 ", n)+"w355", isText)
	}
}

func TestParseStepsOfChangedTexts(t *testing.T) {
	isText := textOfSteps()
	for _, text := range []string{"t000", "w355", "i123 t051", "t000 i010 w020", strings.Repeat("t123 ", 39) + "w355"} {
		for i := range len(text) {
			for c := range 256 {
				checkParsed(t, text[:i]+string([]byte{byte(c)})+text[i+1:], isText)
			}
			checkParsed(t, text[:i], isText)
			checkParsed(t, text[i:], isText)
			checkParsed(t, text[:i]+text[i+1:], isText)
			for _, sign := range []string{" ", "t", "0", "5", "-", "+"} {
				checkParsed(t, text[:i]+sign+text[i:], isText)
			}
		}
	}
}

// checkNotPlanned asks all functions to fail for a plan that is not valid.
func checkNotPlanned(t *testing.T, p impl.Plan) {
	t.Helper()
	for _, k := range []int{0, 1, len(p.Steps) - 1, len(p.Steps), -1, math.MaxInt} {
		checkNoSheetAt(t, p, k)
		checkNoSwap(t, p, k)
		undone, ok := impl.UndoSteps(p, k)
		checkNoPlan(t, "UndoSteps", undone, ok)
	}
	end, ok := impl.EndOf(p)
	checkNoSheet(t, "EndOf", end, ok)
	for _, s := range []impl.Step{toggle(0, 0, 0), {}} {
		longer, ok := impl.AddStep(p, s)
		checkNoPlan(t, "AddStep", longer, ok)
	}
	if vain, ok := impl.VainSteps(p); ok || len(vain) != 0 {
		t.Errorf("VainSteps(%s) = %v, %v", brief(p), vain, ok)
	}
	rest, ok := impl.DropVain(p)
	checkNoPlan(t, "DropVain", rest, ok)
	if effects, ok := impl.EffectsOf(p); ok || effects != [6][6]int{} {
		t.Errorf("EffectsOf(%s) = %v, %v", brief(p), effects, ok)
	}
	back, ok := impl.BackPlan(p)
	checkNoPlan(t, "BackPlan", back, ok)
	if text, ok := impl.PlanText(p); ok || text != "" {
		t.Errorf("PlanText(%s) = %q, %v", brief(p), text, ok)
	}
}

func TestInvalidPlansFail(t *testing.T) {
	for _, bad := range badPlans() {
		checkNotPlanned(t, bad)
		for _, q := range []impl.Plan{{}, bad, planOf(white, bad.Stamps), planOf(bad.Start, stamps(unit)), planOf(white, stamps(unit), toggle(0, 0, 0))} {
			checkNotJoined(t, bad, q)
			checkNotJoined(t, q, bad)
			for _, two := range [][2]impl.Plan{{bad, q}, {q, bad}} {
				if same, ok := impl.SameEffects(two[0], two[1]); ok || same {
					t.Errorf("SameEffects(%s, %s) = %v, %v", brief(two[0]), brief(two[1]), same, ok)
				}
			}
		}
	}
}

func TestNilAndEmptySlicesArePlans(t *testing.T) {
	for _, p := range []impl.Plan{{}, {Stamps: []impl.Sheet{}}, {Steps: []impl.Step{}}, {Stamps: []impl.Sheet{}, Steps: []impl.Step{}}, {Stamps: make([]impl.Sheet, 0, 4), Steps: make([]impl.Step, 0, 40)}} {
		for _, call := range planCalls() {
			if call.name == "AddStep" {
				continue
			}
			if got, ok := call.of(p); !ok || !samePlan(got, impl.Plan{}) {
				t.Errorf("%s(%v) = %v, %v", call.name, p, got, ok)
			}
		}
		checkSheetAt(t, p, 0, white)
		checkSame(t, p, impl.Plan{}, true)
		if vain, ok := impl.VainSteps(p); !ok || len(vain) != 0 {
			t.Errorf("VainSteps(%v) = %v, %v", p, vain, ok)
		}
	}
}

// A plan call makes another plan of one.
type planCall struct {
	name string
	of   func(impl.Plan) (impl.Plan, bool)
}

func planCalls() []planCall {
	undoing := func(k int) func(impl.Plan) (impl.Plan, bool) {
		return func(p impl.Plan) (impl.Plan, bool) { return impl.UndoSteps(p, min(k, len(p.Steps))) }
	}
	return []planCall{
		{"AddStep", func(p impl.Plan) (impl.Plan, bool) { return impl.AddStep(p, toggle(0, 4, 4)) }},
		{"UndoSteps of none", undoing(0)},
		{"UndoSteps of one", undoing(1)},
		{"UndoSteps of all", undoing(40)},
		{"DropVain", impl.DropVain},
		{"BackPlan", impl.BackPlan},
		{"JoinPlans with itself", func(p impl.Plan) (impl.Plan, bool) { return impl.JoinPlans(p, p) }},
		{"JoinPlans behind none", func(p impl.Plan) (impl.Plan, bool) { return impl.JoinPlans(planOf(p.Start, p.Stamps), p) }},
		{"JoinPlans before none", func(p impl.Plan) (impl.Plan, bool) { return impl.JoinPlans(p, planOf(white, p.Stamps)) }},
	}
}

// scribble changes all memory that a plan has, also behind its last elements.
func scribble(p impl.Plan) {
	for i := range p.Stamps[:cap(p.Stamps)] {
		p.Stamps[:cap(p.Stamps)][i] = sheet(-7)
	}
	for i := range p.Steps[:cap(p.Steps)] {
		p.Steps[:cap(p.Steps)][i] = step(9, 9, 9, 9)
	}
}

// A roomy plan has its slices in the middle of longer ones, which it gives out, too.
func roomy(p impl.Plan) (impl.Plan, []impl.Sheet, []impl.Step) {
	sheets := slices.Concat(stamps(uneven), p.Stamps, stamps(uneven, corners, uneven))
	all := slices.Concat(steps(ink(0, 3, 3)), p.Steps, slices.Repeat(steps(wipe(0, 2, 2)), 45))
	return impl.Plan{Start: p.Start, Stamps: sheets[1 : 1+len(p.Stamps)], Steps: all[1 : 1+len(p.Steps)]}, sheets, all
}

// plansToShare are plans that go back, with and without vain steps.
func plansToShare() []impl.Plan {
	list := stamps(unit, sheet(3), white)
	return []impl.Plan{planOf(uneven, list), planOf(uneven, stamps(unit)), planOf(uneven, list, toggle(0, 0, 0)), planOf(white, list, toggle(1, 2, 3), toggle(0, 2, 3), toggle(1, 0, 0)), planOf(full, list, toggle(2, 0, 0)),
		planOf(uneven, list, toggle(0, 1, 1), toggle(2, 0, 0), toggle(1, 5, 5), toggle(2, 3, 3)), planOf(white, list, slices.Repeat(steps(toggle(0, 0, 0), toggle(1, 3, 3)), 10)...)}
}

func TestPlansShareNoMemory(t *testing.T) {
	for _, call := range planCalls() {
		for _, plan := range plansToShare() {
			p, sheets, all := roomy(plan)
			sheetsBefore, allBefore := slices.Clone(sheets), slices.Clone(all)
			first, one := call.of(p)
			want := clonePlan(first)
			second, two := call.of(p)
			scribble(first)
			if !one || !two || !samePlan(second, want) || !slices.Equal(sheets, sheetsBefore) || !slices.Equal(all, allBefore) {
				t.Fatalf("%s(%v) gives %v, and shares memory", call.name, plan, want)
			}
			third, _ := call.of(p)
			longer, _ := impl.UndoSteps(third, 0)
			scribble(p)
			if !samePlan(second, want) || !samePlan(third, want) || !samePlan(longer, want) {
				t.Fatalf("%s(%v) gives %v, and keeps memory of its argument", call.name, plan, want)
			}
		}
	}
}

func TestJoinedPlansShareNoMemory(t *testing.T) {
	for _, plan := range plansToShare() {
		other := planOf(full, plan.Stamps, wipe(0, 4, 1), ink(0, 2, 5))
		p, sheets, all := roomy(plan)
		q, otherSheets, others := roomy(other)
		before := [][]impl.Sheet{slices.Clone(sheets), slices.Clone(otherSheets)}
		stepsBefore := [][]impl.Step{slices.Clone(all), slices.Clone(others)}
		first, one := impl.JoinPlans(p, q)
		second, two := impl.JoinPlans(p, q)
		want := planOf(plan.Start, plan.Stamps, slices.Concat(plan.Steps, other.Steps)...)
		if !one || !two || !samePlan(first, want) || !samePlan(second, want) {
			t.Fatalf("JoinPlans(%v, %v) = %v and then %v", plan, other, first, second)
		}
		scribble(first)
		if !slices.Equal(sheets, before[0]) || !slices.Equal(otherSheets, before[1]) || !slices.Equal(all, stepsBefore[0]) || !slices.Equal(others, stepsBefore[1]) {
			t.Fatalf("JoinPlans(%v, %v) shares memory with an argument", plan, other)
		}
		want = clonePlan(second)
		scribble(p)
		scribble(q)
		if !samePlan(second, want) {
			t.Fatalf("JoinPlans has become %v, not %v", second, want)
		}
	}
}

// callPlans calls each function of the chapter that takes plans.
func callPlans(p, q impl.Plan) {
	impl.IsPlan(p)
	impl.EndOf(p)
	impl.VainSteps(p)
	impl.DropVain(p)
	impl.EffectsOf(p)
	impl.BackPlan(p)
	impl.PlanText(p)
	for k := -1; k <= len(p.Steps)+1; k++ {
		impl.SheetAt(p, k)
		impl.UndoSteps(p, k)
		impl.CanSwap(p, k)
	}
	impl.AddStep(p, wipe(0, 0, 0))
	impl.AddStep(p, impl.Step{})
	impl.SameEffects(p, q)
	impl.JoinPlans(p, q)
	impl.JoinPlans(q, p)
}

func TestPlansModifyNoArgument(t *testing.T) {
	for _, plan := range slices.Concat(somePlans(120), plansToShare(), badPlans()[:400]) {
		p, sheets, all := roomy(plan)
		sheetsBefore, allBefore := slices.Clone(sheets), slices.Clone(all)
		callPlans(p, p)
		callPlans(p, planOf(full, p.Stamps, toggle(0, 0, 0)))
		if !slices.Equal(sheets, sheetsBefore) || !slices.Equal(all, allBefore) || !samePlan(p, plan) {
			t.Fatalf("%v is left as %v", plan, p)
		}
	}
}

func TestPlansSameResultsAgain(t *testing.T) {
	p := planOf(sheet(3), stamps(unit, white), ink(0, 0, 0), toggle(1, 0, 0), toggle(0, 2, 2), wipe(0, 4, 4))
	text := "i000 t100 t022 w044"
	for range 3 {
		vain, one := impl.VainSteps(p)
		parsed, two := impl.ParseSteps(text)
		effects, three := impl.EffectsOf(p)
		told, four := impl.PlanText(p)
		if !one || !two || !three || !four || !slices.Equal(vain, []int{0, 1, 3}) || !slices.Equal(parsed, p.Steps) || effects != picture("2", "", "001", "", "00003").Cells || told != text {
			t.Errorf("VainSteps %v, ParseSteps %v, EffectsOf %v, PlanText %q", vain, parsed, effects, told)
		}
		for i := range vain[:cap(vain)] {
			vain[:cap(vain)][i] = -1
		}
		for i := range parsed[:cap(parsed)] {
			parsed[:cap(parsed)][i] = impl.Step{}
		}
		effects[0][0] = 9
		callPlans(planOf(sheet(-1), nil), impl.Plan{})
	}
}
