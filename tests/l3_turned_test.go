package tests

import (
	"math"
	"slices"
	"testing"

	"loop.example/g01220/impl"
)

func (g grid) quarter() grid {
	var to grid
	for y := range 6 {
		for x := range 6 {
			to[x][5-y] = g[y][x]
		}
	}
	return to
}

func (g grid) mirror() grid {
	var to grid
	for y := range 6 {
		for x := range 6 {
			to[y][5-x] = g[y][x]
		}
	}
	return to
}

func (g grid) turned(k int) grid {
	for range k % 4 {
		g = g.quarter()
	}
	if k >= 4 {
		g = g.mirror()
	}
	return g
}

func (g grid) behind(motion [3]int) grid { return g.turned(motion[0]).moved(motion[1], motion[2]) }

func everyMotion() [][3]int {
	var all [][3]int
	for k := range 8 {
		for dx := range 6 {
			for dy := range 6 {
				all = append(all, [3]int{k, dx, dy})
			}
		}
	}
	return all
}

func isMotion(motion [3]int) bool {
	in := func(n, below int) bool { return n >= 0 && n < below }
	return in(motion[0], 8) && in(motion[1], 6) && in(motion[2], 6)
}

// fewMotions has each turn, each shift in one line, and some others.
func fewMotions() [][3]int {
	all := [][3]int{{0, 0, 0}, {7, 5, 5}, {0, 5, 5}, {7, 0, 0}}
	for k := range 8 {
		all = append(all, [3]int{k, 0, 0}, [3]int{k, 1, 0}, [3]int{k, 0, 1}, [3]int{k, 5, 2}, [3]int{k, 3, 4})
	}
	for d := range 6 {
		all = append(all, [3]int{0, d, 0}, [3]int{0, 0, d}, [3]int{5, d, 5 - d})
	}
	return all
}

// uneven is a sheet that one motion alone keeps.
var uneven = sheet(11, 1)

func before(a, b impl.Sheet) bool { return slices.Compare(a.Rows[:], b.Rows[:]) < 0 }

func firstOfGrids(s impl.Sheet, motions [][3]int) (impl.Sheet, [3]int) {
	g := gridOf(s)
	first, which := g.behind(motions[0]).sheet(), motions[0]
	for _, motion := range motions {
		if image := g.behind(motion).sheet(); before(image, first) {
			first, which = image, motion
		}
	}
	return first, which
}

func keptByGrids(s impl.Sheet) [][3]int {
	g := gridOf(s)
	var kept [][3]int
	for _, motion := range everyMotion() {
		if g.behind(motion) == g {
			kept = append(kept, motion)
		}
	}
	return kept
}

func evenSheets() []impl.Sheet {
	return []impl.Sheet{white, full, uneven, sheet(1), sheet(3, 1), sheet(3), sheet(63), sheet(1, 1, 1, 1, 1, 1), sheet(33, 0, 0, 0, 0, 33),
		sheet(1, 2, 4, 8, 16, 32), sheet(21, 42, 21, 42, 21, 42), sheet(9, 0, 0, 9), sheet(0, 0, 12, 12), sheet(7, 1, 1), sheet(11, 9, 1, 11, 9, 1),
		sheet(21, 0, 21, 0, 21), sheet(3, 6, 12, 24, 48, 33), sheet(62, 61, 59, 55, 47, 31), sheet(62, 63, 63, 63, 63, 63)}
}

func TestTurnSheet(t *testing.T) {
	for k, want := range []impl.Sheet{
		sheet(11, 1), sheet(48, 32, 0, 32), sheet(0, 0, 0, 0, 32, 52), sheet(0, 0, 1, 0, 1, 3),
		sheet(52, 32), sheet(3, 1, 0, 1), sheet(0, 0, 0, 0, 1, 11), sheet(0, 0, 32, 0, 32, 48),
	} {
		if got, ok := impl.TurnSheet(uneven, k); !ok || got != want {
			t.Errorf("TurnSheet(%v, %d) = %v, %v", uneven, k, got, ok)
		}
		for _, s := range []impl.Sheet{white, full, sheet(33, 0, 0, 0, 0, 33), sheet(0, 0, 12, 12)} {
			if got, ok := impl.TurnSheet(s, k); !ok || got != s {
				t.Errorf("TurnSheet(%v, %d) = %v, %v", s, k, got, ok)
			}
		}
	}
	for _, s := range someSheets(200) {
		for k := range 8 {
			want := gridOf(s).turned(k).sheet()
			if got, ok := impl.TurnSheet(s, k); !ok || got != want {
				t.Fatalf("TurnSheet(%v, %d) = %v, %v", s, k, got, ok)
			}
		}
	}
}

func TestTurnBehind(t *testing.T) {
	for _, c := range [][3]int{
		{0, 0, 0}, {1, 1, 2}, {3, 1, 0}, {3, 3, 2}, {1, 4, 5}, {4, 1, 7}, {4, 4, 0}, {5, 1, 4}, {5, 3, 6}, {5, 5, 0}, {7, 5, 2}, {5, 7, 2}, {7, 7, 0}, {0, 7, 7}, {7, 0, 7},
	} {
		if got, ok := impl.TurnBehind(c[0], c[1]); !ok || got != c[2] {
			t.Errorf("TurnBehind(%d, %d) = %d, %v", c[0], c[1], got, ok)
		}
	}
	for k := range 8 {
		for m := range 8 {
			both, ok := impl.TurnBehind(k, m)
			if !ok || both < 0 || both > 7 {
				t.Fatalf("TurnBehind(%d, %d) = %d, %v", k, m, both, ok)
			}
			for _, s := range append(someSheets(20), uneven) {
				once, _ := impl.TurnSheet(s, k)
				twice, _ := impl.TurnSheet(once, m)
				if got, ok := impl.TurnSheet(s, both); !ok || got != twice {
					t.Fatalf("the turn %d of the turn %d of %v is not the turn %d", m, k, s, both)
				}
			}
		}
	}
}

func TestTurnBack(t *testing.T) {
	for k, want := range []int{0, 3, 2, 1, 4, 5, 6, 7} {
		back, ok := impl.TurnBack(k)
		if !ok || back != want {
			t.Errorf("TurnBack(%d) = %d, %v", k, back, ok)
		}
		for _, s := range append(someSheets(20), uneven) {
			turn, _ := impl.TurnSheet(s, k)
			if got, ok := impl.TurnSheet(turn, back); !ok || got != s {
				t.Errorf("the turn %d does not lead back from the turn %d of %v", back, k, s)
			}
		}
		if none, ok := impl.TurnBehind(k, back); !ok || none != 0 {
			t.Errorf("TurnBehind(%d, %d) = %d, %v", k, back, none, ok)
		}
	}
}

func TestMoveSheet(t *testing.T) {
	for _, c := range []struct {
		motion [3]int
		want   impl.Sheet
	}{
		{[3]int{0, 0, 0}, uneven},
		{[3]int{0, 1, 0}, sheet(22, 2)},
		{[3]int{0, 0, 5}, sheet(1, 0, 0, 0, 0, 11)},
		{[3]int{1, 0, 0}, sheet(48, 32, 0, 32)},
		{[3]int{1, 1, 1}, sheet(0, 33, 1, 0, 1)},
		{[3]int{4, 4, 0}, sheet(13, 8)},
		{[3]int{7, 5, 5}, sheet(0, 16, 0, 16, 24)},
	} {
		if got, ok := impl.MoveSheet(uneven, c.motion); !ok || got != c.want {
			t.Errorf("MoveSheet(%v, %v) = %v, %v", uneven, c.motion, got, ok)
		}
	}
	for _, s := range append(someSheets(30), evenSheets()...) {
		for _, motion := range everyMotion() {
			want := gridOf(s).behind(motion).sheet()
			if got, ok := impl.MoveSheet(s, motion); !ok || got != want {
				t.Fatalf("MoveSheet(%v, %v) = %v, %v", s, motion, got, ok)
			}
		}
	}
}

func TestMotionsKeepSizes(t *testing.T) {
	for _, s := range someSheets(50) {
		size, _ := impl.SizeOf(s)
		for _, motion := range everyMotion() {
			image, ok := impl.MoveSheet(s, motion)
			if n, fine := impl.SizeOf(image); !ok || !fine || n != size {
				t.Fatalf("MoveSheet(%v, %v) = %v, %v has the size %d", s, motion, image, ok, n)
			}
		}
	}
}

func TestTurnVector(t *testing.T) {
	for k, want := range [][2]int{{1, 2}, {4, 1}, {5, 4}, {2, 5}, {5, 2}, {2, 1}, {1, 4}, {4, 5}} {
		if ex, ey, ok := impl.TurnVector(k, 1, 2); !ok || ex != want[0] || ey != want[1] {
			t.Errorf("TurnVector(%d, 1, 2) = %d, %d, %v", k, ex, ey, ok)
		}
		if ex, ey, ok := impl.TurnVector(k, 0, 0); !ok || ex != 0 || ey != 0 {
			t.Errorf("TurnVector(%d, 0, 0) = %d, %d, %v", k, ex, ey, ok)
		}
		if ex, ey, ok := impl.TurnVector(k, 3, 3); !ok || ex != 3 || ey != 3 {
			t.Errorf("TurnVector(%d, 3, 3) = %d, %d, %v", k, ex, ey, ok)
		}
	}
}

func TestShiftsGoWithTurns(t *testing.T) {
	for _, s := range append(someSheets(10), evenSheets()...) {
		for _, motion := range everyMotion() {
			k, dx, dy := motion[0], motion[1], motion[2]
			ex, ey, ok := impl.TurnVector(k, dx, dy)
			if !ok || ex < 0 || ex > 5 || ey < 0 || ey > 5 {
				t.Fatalf("TurnVector(%d, %d, %d) = %d, %d, %v", k, dx, dy, ex, ey, ok)
			}
			shifted, _ := impl.ShiftSheet(s, dx, dy)
			there, one := impl.TurnSheet(shifted, k)
			turned, _ := impl.TurnSheet(s, k)
			also, two := impl.ShiftSheet(turned, ex, ey)
			if !one || !two || there != also {
				t.Fatalf("the turn %d of %v shifted by %d, %d is not shifted by %d, %d", k, s, dx, dy, ex, ey)
			}
		}
	}
}

func TestMotionBehind(t *testing.T) {
	for _, c := range []struct{ a, b, want [3]int }{
		{[3]int{0, 0, 0}, [3]int{0, 0, 0}, [3]int{0, 0, 0}},
		{[3]int{0, 0, 0}, [3]int{7, 5, 5}, [3]int{7, 5, 5}},
		{[3]int{7, 5, 5}, [3]int{0, 0, 0}, [3]int{7, 5, 5}},
		{[3]int{0, 4, 5}, [3]int{0, 3, 1}, [3]int{0, 1, 0}},
		{[3]int{0, 1, 0}, [3]int{1, 0, 0}, [3]int{1, 0, 1}},
		{[3]int{1, 0, 0}, [3]int{0, 1, 0}, [3]int{1, 1, 0}},
		{[3]int{0, 1, 2}, [3]int{4, 3, 3}, [3]int{4, 2, 5}},
		{[3]int{1, 1, 0}, [3]int{3, 0, 1}, [3]int{0, 0, 0}},
		{[3]int{7, 5, 5}, [3]int{7, 5, 5}, [3]int{0, 0, 0}},
		{[3]int{5, 1, 2}, [3]int{6, 0, 0}, [3]int{3, 1, 4}},
	} {
		if got, ok := impl.MotionBehind(c.a, c.b); !ok || got != c.want {
			t.Errorf("MotionBehind(%v, %v) = %v, %v", c.a, c.b, got, ok)
		}
	}
	s := gridOf(uneven)
	for _, a := range everyMotion() {
		once := s.behind(a)
		for _, b := range everyMotion() {
			both, ok := impl.MotionBehind(a, b)
			if !ok || !isMotion(both) || s.behind(both) != once.behind(b) {
				t.Fatalf("MotionBehind(%v, %v) = %v, %v", a, b, both, ok)
			}
		}
	}
}

func TestMotionBack(t *testing.T) {
	for _, c := range [][2][3]int{
		{{0, 0, 0}, {0, 0, 0}}, {{0, 1, 2}, {0, 5, 4}}, {{0, 5, 5}, {0, 1, 1}}, {{1, 0, 0}, {3, 0, 0}}, {{1, 1, 0}, {3, 0, 1}},
		{{4, 1, 2}, {4, 1, 4}}, {{7, 5, 5}, {7, 5, 5}}, {{2, 1, 2}, {2, 1, 2}}, {{3, 3, 0}, {1, 0, 3}},
	} {
		if got, ok := impl.MotionBack(c[0]); !ok || got != c[1] {
			t.Errorf("MotionBack(%v) = %v, %v", c[0], got, ok)
		}
	}
	for _, a := range everyMotion() {
		back, ok := impl.MotionBack(a)
		for _, two := range [][2][3]int{{a, back}, {back, a}} {
			if none, fine := impl.MotionBehind(two[0], two[1]); !ok || !fine || none != [3]int{} {
				t.Errorf("MotionBack(%v) = %v, %v, which makes %v of it", a, back, ok, none)
			}
		}
	}
}

func TestMotionsAreAGroup(t *testing.T) {
	for _, s := range evenSheets() {
		for _, a := range fewMotions() {
			once, _ := impl.MoveSheet(s, a)
			for _, b := range fewMotions() {
				both, one := impl.MotionBehind(a, b)
				twice, two := impl.MoveSheet(once, b)
				if got, ok := impl.MoveSheet(s, both); !one || !two || !ok || got != twice {
					t.Fatalf("the motion %v behind %v, %v, makes %v of %v, not %v", b, a, both, got, s, twice)
				}
			}
			back, one := impl.MotionBack(a)
			if got, ok := impl.MoveSheet(once, back); !one || !ok || got != s {
				t.Fatalf("the motion %v back from %v makes %v of %v", back, a, got, s)
			}
		}
	}
	for _, a := range fewMotions() {
		for _, b := range fewMotions() {
			for _, c := range fewMotions() {
				ab, _ := impl.MotionBehind(a, b)
				bc, _ := impl.MotionBehind(b, c)
				left, one := impl.MotionBehind(ab, c)
				right, two := impl.MotionBehind(a, bc)
				if !one || !two || left != right {
					t.Fatalf("%v, %v and %v are %v or %v together", a, b, c, left, right)
				}
			}
		}
	}
}

func TestFirstPlace(t *testing.T) {
	for _, c := range [][2]impl.Sheet{
		{white, white}, {full, full}, {sheet(32), sheet(0, 0, 0, 0, 0, 1)}, {sheet(0, 0, 0, 0, 0, 1), sheet(0, 0, 0, 0, 0, 1)},
		{sheet(3, 1), sheet(0, 0, 0, 0, 3, 1)}, {sheet(48, 32), sheet(0, 0, 0, 0, 3, 2)}, {sheet(63, 1), sheet(0, 0, 0, 0, 63, 1)},
		{sheet(1, 2, 4, 8, 16, 32), sheet(1, 2, 4, 8, 16, 32)}, {sheet(2, 4, 8, 16, 32, 1), sheet(1, 2, 4, 8, 16, 32)},
		{sheet(62, 63, 63, 63, 63, 63), sheet(31, 63, 63, 63, 63, 63)}, {sheet(42, 21, 42, 21, 42, 21), sheet(21, 42, 21, 42, 21, 42)},
		{sheet(33, 0, 0, 0, 0, 33), sheet(0, 0, 0, 0, 3, 3)}, {sheet(32, 32, 32, 32, 32, 32), sheet(1, 1, 1, 1, 1, 1)},
	} {
		if got, ok := impl.FirstPlace(c[0]); !ok || got != c[1] {
			t.Errorf("FirstPlace(%v) = %v, %v", c[0], got, ok)
		}
	}
	for _, s := range append(someSheets(200), evenSheets()...) {
		want, _ := firstOfGrids(s, everyMotion()[:36])
		if got, ok := impl.FirstPlace(s); !ok || got != want {
			t.Errorf("FirstPlace(%v) = %v, %v", s, got, ok)
		}
	}
}

func TestFirstTurn(t *testing.T) {
	for _, c := range []struct {
		s, want impl.Sheet
		k       int
	}{
		{white, white, 0}, {full, full, 0}, {sheet(1), sheet(0, 0, 0, 0, 0, 1), 3}, {sheet(0, 0, 0, 0, 0, 1), sheet(0, 0, 0, 0, 0, 1), 0},
		{uneven, sheet(0, 0, 0, 0, 1, 11), 6}, {sheet(0, 0, 0, 0, 1, 11), sheet(0, 0, 0, 0, 1, 11), 0}, {sheet(0, 0, 0, 0, 32, 52), sheet(0, 0, 0, 0, 1, 11), 4},
		{sheet(3), sheet(0, 0, 0, 0, 0, 3), 6}, {sheet(63), sheet(0, 0, 0, 0, 0, 63), 2}, {sheet(1, 2, 4, 8, 16, 32), sheet(1, 2, 4, 8, 16, 32), 0},
		{sheet(32, 16, 8, 4, 2, 1), sheet(1, 2, 4, 8, 16, 32), 1}, {sheet(48, 32, 0, 32), sheet(0, 0, 0, 0, 1, 11), 5},
	} {
		if got, k, ok := impl.FirstTurn(c.s); !ok || got != c.want || k != c.k {
			t.Errorf("FirstTurn(%v) = %v, %d, %v", c.s, got, k, ok)
		}
	}
	var turns [][3]int
	for k := range 8 {
		turns = append(turns, [3]int{k, 0, 0})
	}
	for _, s := range append(someSheets(200), evenSheets()...) {
		want, motion := firstOfGrids(s, turns)
		if got, k, ok := impl.FirstTurn(s); !ok || got != want || k != motion[0] {
			t.Errorf("FirstTurn(%v) = %v, %d, %v", s, got, k, ok)
		}
	}
}

func TestFirstForm(t *testing.T) {
	for _, c := range []struct {
		s, want impl.Sheet
		motion  [3]int
	}{
		{white, white, [3]int{0, 0, 0}},
		{full, full, [3]int{0, 0, 0}},
		{sheet(0, 0, 0, 0, 0, 1), sheet(0, 0, 0, 0, 0, 1), [3]int{0, 0, 0}},
		{sheet(1), sheet(0, 0, 0, 0, 0, 1), [3]int{0, 0, 5}},
		{sheet(0, 32), sheet(0, 0, 0, 0, 0, 1), [3]int{0, 1, 4}},
		{sheet(3), sheet(0, 0, 0, 0, 0, 3), [3]int{0, 0, 5}},
		{sheet(3, 1), sheet(0, 0, 0, 0, 1, 3), [3]int{3, 0, 0}},
		{sheet(0, 0, 0, 0, 1, 3), sheet(0, 0, 0, 0, 1, 3), [3]int{0, 0, 0}},
		{sheet(1, 2, 4, 8, 16, 32), sheet(1, 2, 4, 8, 16, 32), [3]int{0, 0, 0}},
		{sheet(32, 16, 8, 4, 2, 1), sheet(1, 2, 4, 8, 16, 32), [3]int{1, 0, 0}},
	} {
		if got, motion, ok := impl.FirstForm(c.s); !ok || got != c.want || motion != c.motion {
			t.Errorf("FirstForm(%v) = %v, %v, %v", c.s, got, motion, ok)
		}
	}
	for _, s := range append(someSheets(100), evenSheets()...) {
		want, motion := firstOfGrids(s, everyMotion())
		got, by, ok := impl.FirstForm(s)
		if !ok || got != want || by != motion {
			t.Errorf("FirstForm(%v) = %v, %v, %v", s, got, by, ok)
		}
		if there, ok := impl.MoveSheet(s, by); !ok || there != got {
			t.Errorf("MoveSheet(%v, %v) = %v, %v is not the first form", s, by, there, ok)
		}
		if same, none, ok := impl.FirstForm(got); !ok || same != got || none != [3]int{} {
			t.Errorf("FirstForm(%v) = %v, %v, %v", got, same, none, ok)
		}
	}
}

// alikeSheets are alike among themselves here and there, and have the same size, or not.
func alikeSheets() []impl.Sheet {
	all := evenSheets()
	for i, s := range []impl.Sheet{uneven, sheet(3, 1), sheet(7, 1, 1), sheet(13, 1), sheet(5, 3), sheet(1, 2, 4, 8, 16, 32), sheet(9, 0, 0, 9)} {
		all = append(all, s)
		for j, motion := range fewMotions() {
			if j%9 == i {
				all = append(all, gridOf(s).behind(motion).sheet())
			}
		}
	}
	return all
}

func TestSheetsAlikeHaveTheSameFirstForm(t *testing.T) {
	sheets := alikeSheets()
	forms := map[impl.Sheet]impl.Sheet{}
	for _, s := range sheets {
		forms[s], _, _ = impl.FirstForm(s)
	}
	alike := 0
	for _, a := range sheets {
		images := map[impl.Sheet]bool{}
		for _, motion := range everyMotion() {
			image, _ := impl.MoveSheet(a, motion)
			images[image] = true
		}
		for _, b := range sheets {
			if images[b] {
				alike++
			}
			if are, ok := impl.AreAlike(a, b); !ok || are != images[b] {
				t.Fatalf("AreAlike(%v, %v) = %v, %v", a, b, are, ok)
			}
			if (forms[a] == forms[b]) != images[b] {
				t.Fatalf("the first forms of %v and %v are %v and %v", a, b, forms[a], forms[b])
			}
		}
	}
	if n := len(sheets); alike <= n || alike == n*n {
		t.Errorf("%d of %d pairs are alike", alike, n*n)
	}
}

func TestAreAlike(t *testing.T) {
	for _, c := range []struct {
		a, b impl.Sheet
		want bool
	}{
		{white, white, true}, {full, full, true}, {white, full, false}, {white, sheet(1), false}, {sheet(1), sheet(0, 0, 0, 0, 0, 32), true},
		{sheet(3), sheet(1, 1), true}, {sheet(3), sheet(1, 2), false}, {sheet(33), sheet(3), true}, {sheet(5), sheet(3), false}, {sheet(5), sheet(1, 0, 1), true},
		{sheet(11, 1), sheet(13, 8), true}, {sheet(11, 1), sheet(13, 1), false}, {sheet(63), sheet(1, 1, 1, 1, 1, 1), true}, {sheet(63), sheet(1, 2, 4, 8, 16, 32), false},
		{sheet(3, 6), sheet(6, 3), true}, {sheet(5), sheet(17), true},
	} {
		if are, ok := impl.AreAlike(c.a, c.b); !ok || are != c.want {
			t.Errorf("AreAlike(%v, %v) = %v, %v", c.a, c.b, are, ok)
		}
		if are, ok := impl.AreAlike(c.b, c.a); !ok || are != c.want {
			t.Errorf("AreAlike(%v, %v) = %v, %v", c.b, c.a, are, ok)
		}
	}
}

func TestKeptBy(t *testing.T) {
	for _, c := range []struct {
		s    impl.Sheet
		want [][3]int
	}{
		{white, everyMotion()},
		{full, everyMotion()},
		{uneven, [][3]int{{0, 0, 0}}},
		{sheet(3, 1), [][3]int{{0, 0, 0}, {5, 0, 0}}},
		{sheet(3), [][3]int{{0, 0, 0}, {2, 2, 1}, {4, 2, 0}, {6, 0, 1}}},
		{sheet(0, 0, 12, 12), [][3]int{{0, 0, 0}, {1, 0, 0}, {2, 0, 0}, {3, 0, 0}, {4, 0, 0}, {5, 0, 0}, {6, 0, 0}, {7, 0, 0}}},
		{sheet(11, 9, 1, 11, 9, 1), [][3]int{{0, 0, 0}, {0, 0, 3}}},
	} {
		if kept, ok := impl.KeptBy(c.s); !ok || !slices.Equal(kept, c.want) {
			t.Errorf("KeptBy(%v) = %v, %v", c.s, kept, ok)
		}
	}
	for _, s := range append(someSheets(60), evenSheets()...) {
		if kept, ok := impl.KeptBy(s); !ok || !slices.Equal(kept, keptByGrids(s)) {
			t.Errorf("KeptBy(%v) = %v, %v", s, kept, ok)
		}
	}
}

func TestKeptMotionsAreAGroup(t *testing.T) {
	for _, s := range evenSheets() {
		kept, _ := impl.KeptBy(s)
		is := map[[3]int]bool{}
		for _, motion := range kept {
			is[motion] = true
		}
		for _, a := range kept {
			for _, b := range kept {
				if both, ok := impl.MotionBehind(a, b); !ok || !is[both] {
					t.Fatalf("%v and %v keep %v, but not %v, %v", a, b, s, both, ok)
				}
			}
			if back, ok := impl.MotionBack(a); !ok || !is[back] {
				t.Fatalf("%v keeps %v, but not %v, %v", a, s, back, ok)
			}
		}
	}
}

func TestCountForms(t *testing.T) {
	for _, c := range []struct {
		s    impl.Sheet
		want int
	}{
		{white, 1}, {full, 1}, {uneven, 288}, {sheet(1), 36}, {sheet(3, 1), 144}, {sheet(3), 72}, {sheet(63), 12}, {sheet(0, 0, 12, 12), 36},
		{sheet(21, 42, 21, 42, 21, 42), 2}, {sheet(9, 0, 0, 9), 9}, {sheet(1, 2, 4, 8, 16, 32), 12}, {sheet(62, 63, 63, 63, 63, 63), 36},
	} {
		if n, ok := impl.CountForms(c.s); !ok || n != c.want {
			t.Errorf("CountForms(%v) = %d, %v", c.s, n, ok)
		}
	}
	for _, s := range append(someSheets(40), evenSheets()...) {
		images := map[grid]bool{}
		for _, motion := range everyMotion() {
			images[gridOf(s).behind(motion)] = true
		}
		n, ok := impl.CountForms(s)
		if !ok || n != len(images) {
			t.Errorf("CountForms(%v) = %d, %v", s, n, ok)
		}
		if kept, ok := impl.KeptBy(s); !ok || n*len(kept) != 288 {
			t.Errorf("KeptBy(%v) has %d motions, CountForms is %d", s, len(kept), n)
		}
	}
}

func badTurns() []int {
	return []int{-1, -2, -4, -7, -8, 8, 9, 12, 15, 16, 1 << 32, math.MaxInt, math.MaxInt - 7, math.MinInt, math.MinInt + 1, math.MinInt + 8}
}

func badShifts() []int {
	return []int{-1, -5, -6, -7, 6, 7, 11, 12, 36, 1 << 32, math.MaxInt, math.MaxInt - 1, math.MinInt, math.MinInt + 1, math.MinInt + 2}
}

func badMotions() [][3]int {
	var bad [][3]int
	for _, k := range badTurns() {
		bad = append(bad, [3]int{k, 0, 0}, [3]int{k, 5, 5}, [3]int{k, 1, 2}, [3]int{k, k, k})
	}
	for _, d := range badShifts() {
		bad = append(bad, [3]int{0, d, 0}, [3]int{0, 0, d}, [3]int{7, d, 5}, [3]int{7, 5, d}, [3]int{3, d, d})
	}
	return bad
}

func TestInvalidTurnsFail(t *testing.T) {
	for _, bad := range badTurns() {
		for _, s := range []impl.Sheet{white, full, uneven} {
			got, ok := impl.TurnSheet(s, bad)
			checkNoSheet(t, "TurnSheet", got, ok)
		}
		for _, other := range append(badTurns(), 0, 1, 3, 4, 5, 7) {
			for _, two := range [][2]int{{bad, other}, {other, bad}} {
				if k, ok := impl.TurnBehind(two[0], two[1]); ok || k != 0 {
					t.Errorf("TurnBehind(%d, %d) = %d, %v", two[0], two[1], k, ok)
				}
			}
		}
		if k, ok := impl.TurnBack(bad); ok || k != 0 {
			t.Errorf("TurnBack(%d) = %d, %v", bad, k, ok)
		}
	}
}

func TestInvalidMotionsFail(t *testing.T) {
	for _, bad := range badMotions() {
		for _, s := range []impl.Sheet{white, full, uneven} {
			got, ok := impl.MoveSheet(s, bad)
			checkNoSheet(t, "MoveSheet", got, ok)
		}
		if ex, ey, ok := impl.TurnVector(bad[0], bad[1], bad[2]); ok || ex != 0 || ey != 0 {
			t.Errorf("TurnVector of %v = %d, %d, %v", bad, ex, ey, ok)
		}
		for _, other := range append(fewMotions(), bad) {
			for _, two := range [][2][3]int{{bad, other}, {other, bad}} {
				if motion, ok := impl.MotionBehind(two[0], two[1]); ok || motion != [3]int{} {
					t.Errorf("MotionBehind(%v, %v) = %v, %v", two[0], two[1], motion, ok)
				}
			}
		}
		if motion, ok := impl.MotionBack(bad); ok || motion != [3]int{} {
			t.Errorf("MotionBack(%v) = %v, %v", bad, motion, ok)
		}
	}
}

func TestInvalidSheetsHaveNoTurns(t *testing.T) {
	for _, bad := range badSheets() {
		for _, motion := range fewMotions() {
			s, ok := impl.MoveSheet(bad, motion)
			checkNoSheet(t, "MoveSheet", s, ok)
			s, ok = impl.TurnSheet(bad, motion[0])
			checkNoSheet(t, "TurnSheet", s, ok)
		}
		s, ok := impl.FirstPlace(bad)
		checkNoSheet(t, "FirstPlace", s, ok)
		s, k, ok := impl.FirstTurn(bad)
		checkNoSheet(t, "FirstTurn", s, ok || k != 0)
		s, motion, ok := impl.FirstForm(bad)
		checkNoSheet(t, "FirstForm", s, ok || motion != [3]int{})
		if kept, ok := impl.KeptBy(bad); ok || len(kept) != 0 {
			t.Errorf("KeptBy(%v) = %v, %v", bad, kept, ok)
		}
		if n, ok := impl.CountForms(bad); ok || n != 0 {
			t.Errorf("CountForms(%v) = %d, %v", bad, n, ok)
		}
		for _, other := range []impl.Sheet{white, full, bad, uneven} {
			for _, two := range [][2]impl.Sheet{{bad, other}, {other, bad}} {
				if are, ok := impl.AreAlike(two[0], two[1]); ok || are {
					t.Errorf("AreAlike(%v, %v) = %v, %v", two[0], two[1], are, ok)
				}
			}
		}
	}
}

func TestTurnsSameResultsAgain(t *testing.T) {
	for _, s := range []impl.Sheet{white, uneven, sheet(3)} {
		kept, _ := impl.KeptBy(s)
		for i := range kept {
			kept[i] = [3]int{-1, -1, -1}
		}
		if again, ok := impl.KeptBy(s); !ok || !slices.Equal(again, keptByGrids(s)) {
			t.Errorf("second KeptBy(%v) gives %v, %v", s, again, ok)
		}
	}
	form, motion, _ := impl.FirstForm(sheet(63))
	for range 20 {
		if again, by, ok := impl.FirstForm(sheet(63)); !ok || again != form || by != motion {
			t.Errorf("FirstForm gives %v, %v and then %v, %v, %v", form, motion, again, by, ok)
		}
	}
}
