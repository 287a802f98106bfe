package tests

import (
	"fmt"
	"go/ast"
	"go/parser"
	"go/token"
	"math"
	"math/rand"
	"path/filepath"
	"reflect"
	"runtime"
	"slices"
	"strings"
	"testing"

	"loop.example/g01220/impl"
)

// functions are all that the document lists, by chapters.
func functions() []any {
	return []any{
		impl.FormatInt, impl.ParseInt, impl.SplitString, impl.JoinStrings, impl.LessString, impl.Checksum, impl.AppendChecksum, impl.VerifyChecksum,
		impl.IsSheet, impl.IsBlack, impl.FlipCell, impl.SizeOf, impl.ShiftSheet, impl.ToggleAt, impl.InkAt, impl.WipeAt, impl.BothOf, impl.EitherOf, impl.DifferOf, impl.OtherOf, impl.IsPart, impl.CellsOf, impl.SheetOf, impl.LessSheet, impl.SheetText, impl.ParseSheet,
		impl.TurnSheet, impl.TurnBehind, impl.TurnBack, impl.MoveSheet, impl.TurnVector, impl.MotionBehind, impl.MotionBack, impl.FirstPlace, impl.FirstTurn, impl.FirstForm, impl.AreAlike, impl.KeptBy, impl.CountForms,
		impl.PrintOf, impl.KernelOf, impl.RankOf, impl.CanToggle, impl.LeastPresses, impl.FewestPresses, impl.IsUndoable, impl.UndoStamp, impl.PowerOf, impl.StampOrder, impl.IsQuiet, impl.QuietStamps,
		impl.SpreadSheet, impl.ShrinkSheet, impl.OpenSheet, impl.CloseSheet, impl.ReflectSheet, impl.InnerEdge, impl.OuterEdge, impl.HitSheet, impl.SpreadTimes, impl.TimesToFill, impl.ShrinkLeft, impl.IsOpened, impl.IsClosed, impl.SumStamp,
		impl.OpenCells, impl.CanInk, impl.InkAll, impl.FirstCover, impl.CountCovers, impl.GreedyCover, impl.NeededCells, impl.IsCover, impl.CountTilings, impl.FirstTiling, impl.MostApart,
		impl.PeriodsOf, impl.ShiftsTo, impl.CountShifts, impl.LeastTile, impl.IsTileOf, impl.FromTile, impl.SlantsOf, impl.SlantSheet, impl.MeetingsOf, impl.MeetAlike, impl.OrderOf, impl.CountKept, impl.CountClasses,
		impl.IsPicture, impl.IsPrint, impl.PictureOf, impl.InkSheet, impl.HiddenPrints, impl.WholePrints, impl.IsRightOrder, impl.FirstOrder, impl.CountOrders, impl.LastPrints, impl.Overlaps, impl.FewestPrints, impl.SwapPrints, impl.PictureText,
		impl.ChanceToggled, impl.MeanToggled, impl.ChanceInked, impl.MeanInked, impl.MeanWiped, impl.ChanceFits, impl.ChanceApart, impl.MeanCommon, impl.CommonTable, impl.ChanceSame, impl.MeanWait, impl.BestCell,
		impl.FreeCells, impl.NextsOf, impl.LastWins, impl.MissWins, impl.NumberOf, impl.WinningCells, impl.LongestGame, impl.ShortestGame, impl.PlayParty, impl.MirrorCell, impl.MirrorWins,
		impl.IsPlan, impl.SheetAt, impl.EndOf, impl.AddStep, impl.UndoSteps, impl.VainSteps, impl.DropVain, impl.EffectsOf, impl.SameEffects, impl.CanSwap, impl.BackPlan, impl.JoinPlans, impl.PlanText, impl.ParseSteps,
		impl.IsShop, impl.NewShop, impl.DoJob, impl.DoJobs, impl.CommonCells, impl.IsValidRecord, impl.EncodeRecord, impl.IsValidLog, impl.AppendRecord, impl.SyncLog, impl.CrashLog, impl.RecoverLog, impl.LogRecords, impl.NewConsole, impl.IsValidConsole, impl.ExecuteCommand, impl.RunScript, impl.ReplayLog,
	}
}

func nameOf(function any) string {
	name := runtime.FuncForPC(reflect.ValueOf(function).Pointer()).Name()
	return name[strings.LastIndex(name, ".")+1:]
}

// declaredIn gives the names of the exported functions of a file.
func declaredIn(t *testing.T, path string) []string {
	t.Helper()
	file, err := parser.ParseFile(token.NewFileSet(), path, nil, 0)
	if err != nil {
		t.Fatal(err)
	}
	var names []string
	for _, d := range file.Decls {
		if f, ok := d.(*ast.FuncDecl); ok && f.Recv == nil && f.Name.IsExported() {
			names = append(names, f.Name.Name)
		}
	}
	return names
}

func TestNoFunctionIsLeftOut(t *testing.T) {
	paths, err := filepath.Glob("../impl/*.go")
	if err != nil || len(paths) != 12 {
		t.Fatal(paths, err)
	}
	var declared, listed []string
	for _, path := range paths {
		declared = append(declared, declaredIn(t, path)...)
	}
	for _, function := range functions() {
		listed = append(listed, nameOf(function))
	}
	slices.Sort(declared)
	slices.Sort(listed)
	if !slices.Equal(declared, listed) {
		t.Errorf("declared %q, listed %q", declared, listed)
	}
}

// A maker makes arguments by a fixed series of numbers.
type maker struct {
	*rand.Rand
	good, bad []impl.Sheet
}

func (m maker) often() bool { return m.Intn(8) > 0 }

func (m maker) number() int {
	if m.often() {
		return m.Intn(9)
	}
	few := []int{-1, 9, 12, 18, 31, 36, 37, 40, 41, 59, 60, 63, 64, 1000, 1001, 999999, -999999, 1000000, 1 << 32, math.MaxInt, math.MinInt, math.MaxInt - 1, math.MinInt + 1}
	return few[m.Intn(len(few))]
}

func (m maker) upTo(n int) int {
	if m.often() {
		return m.Intn(n + 1)
	}
	return m.number()
}

func (m maker) sheet() impl.Sheet {
	if !m.often() {
		return m.bad[m.Intn(len(m.bad))]
	}
	// Stamps of few cells and sheets with few white ones are what most functions are about.
	switch s := m.good[m.Intn(len(m.good))]; m.Intn(5) {
	case 0:
		return s
	case 1:
		return differ(full, sheet(s.Rows[0]&s.Rows[1], s.Rows[2]&3))
	case 2:
		return sheet(s.Rows[0] & 7)
	case 3:
		return []impl.Sheet{white, full, unit, holed, chessBoard, uneven, corners, diagonal, thirteen}[m.Intn(9)]
	default:
		return sheet(s.Rows[0]&3, s.Rows[1]&3)
	}
}

func (m maker) print() impl.Print {
	return impl.Print{Ink: 1 + m.upTo(3), Stamp: m.sheet(), Cell: [2]int{m.upTo(5), m.upTo(5)}}
}

func (m maker) step() impl.Step {
	return step(1+m.upTo(2), m.upTo(1), m.upTo(5), m.upTo(5))
}

func (m maker) shop() impl.Shop {
	return counting(shopOf(m.sheet(), m.sheet()), m.upTo(1000), m.upTo(1000))
}

func (m maker) log() impl.Log {
	if !m.often() {
		return impl.Log{Durable: m.text(), Pending: m.text(), Count: m.number()}
	}
	n := []int{0, 1, 2, 5, 59, 60}[m.Intn(6)]
	return logOf(someRecords(n), m.Intn(n+1))
}

func (m maker) text() string {
	texts := []string{"", "0", "-12", "01", "1000000", "99999999999999999999", "a", "a,,b", ",", ";", "#", sealed("a"), sealed(""), sealed("0 a@b"), "a#1", textOf(uneven), textOf(full), "t000", "t000 i135 w355", "t600", "toggle 0 0", "turn 1", "swap", "size", "a@b", "size\nswap\nhelp", textOfRecords(someRecords(3)), textOfRecords(someRecords(61)),
		strings.Repeat("a", 4000), strings.Repeat("a", 4001), strings.Repeat("\n", 30), strings.Repeat("a", 30001), "\x00\xff"}
	return texts[m.Intn(len(texts))]
}

func (m maker) picture() impl.Picture {
	var p impl.Picture
	for _, cell := range allCells() {
		p.Cells[cell[1]][cell[0]] = m.Intn(5)
	}
	if !m.often() {
		p.Cells[m.Intn(6)][m.Intn(6)] = m.number()
	}
	return p
}

// listOf gives a list that is the part of a longer one, or nil.
func listOf[T any](m maker, most int, one func() T) []T {
	if m.Intn(10) == 0 {
		return nil
	}
	n := m.Intn(most + 1)
	list := make([]T, n+3)
	for i := range list {
		list[i] = one()
	}
	return list[1 : n+1]
}

func (m maker) plan() impl.Plan {
	return planOf(m.sheet(), listOf(m, 4, m.sheet), listOf(m, 7, m.step)...)
}

// value makes a value of one of the types that the functions take.
func (m maker) value(kind reflect.Type) any {
	switch reflect.Zero(kind).Interface().(type) {
	case int:
		return m.number()
	case bool:
		return m.Intn(2) == 0
	case string:
		return m.text()
	case [2]int:
		return [2]int{m.upTo(5), m.upTo(5)}
	case [3]int:
		return [3]int{m.upTo(7), m.upTo(5), m.upTo(5)}
	case []int:
		return listOf(m, 6, func() int { return m.upTo(3) })
	case []string:
		return listOf(m, 4, m.text)
	case [][2]int:
		return listOf(m, 6, func() [2]int { return [2]int{m.upTo(5), m.upTo(5)} })
	case impl.Sheet:
		return m.sheet()
	case []impl.Sheet:
		return listOf(m, 6, m.sheet)
	case impl.Picture:
		return m.picture()
	case impl.Print:
		return m.print()
	case []impl.Print:
		return listOf(m, 5, m.print)
	case impl.Step:
		return m.step()
	case impl.Plan:
		return m.plan()
	case impl.Shop:
		return m.shop()
	case impl.Job:
		return job(m.upTo(8), m.upTo(6), m.upTo(6))
	case []impl.Job:
		return listOf(m, 9, func() impl.Job { return job(1+m.upTo(6), m.upTo(5), m.upTo(5)) })
	case impl.LogRecord:
		return record(m.text(), m.text())
	case impl.Log:
		return m.log()
	case impl.Console:
		return impl.Console{Shop: m.shop(), Log: m.log()}
	}
	panic("no values of " + kind.String())
}

// arguments are often alike where they have the same type, and the picture is often that of the prints.
func (m maker) arguments(function any) []reflect.Value {
	kind := reflect.TypeOf(function)
	var made []reflect.Value
	for i := range kind.NumIn() {
		if i > 0 && kind.In(i) == kind.In(i-1) && m.Intn(3) == 0 {
			made = append(made, made[i-1])
			continue
		}
		made = append(made, reflect.ValueOf(m.value(kind.In(i))))
	}
	if len(made) > 1 && m.often() {
		if list, ok := made[1].Interface().([]impl.Print); ok {
			p, _ := impl.PictureOf(list)
			made[0] = reflect.ValueOf(p)
		}
	}
	if len(made) > 2 && m.often() {
		if _, ok := made[2].Interface().([]int); ok {
			made[2] = reflect.ValueOf(m.Perm(made[1].Len()))
		}
	}
	return made
}

// slicesIn gives all slices of some values, each with all memory that it has.
func slicesIn(values ...reflect.Value) []reflect.Value {
	var all []reflect.Value
	for _, v := range values {
		switch v.Kind() {
		case reflect.Slice:
			all = append(all, v.Slice3(0, v.Cap(), v.Cap()))
		case reflect.Struct:
			for i := range v.NumField() {
				all = append(all, slicesIn(v.Field(i))...)
			}
		}
	}
	return all
}

func shareMemory(a, b reflect.Value) bool {
	from, other := a.Pointer(), b.Pointer()
	return from < other+uintptr(b.Cap())*b.Type().Elem().Size() && other < from+uintptr(a.Cap())*a.Type().Elem().Size()
}

func textsOf(values []reflect.Value) []string {
	var texts []string
	for _, v := range values {
		texts = append(texts, fmt.Sprint(v.Interface()))
	}
	return texts
}

// isNothing reports whether a value is zero, or has just slices that are empty.
func isNothing(v reflect.Value) bool {
	if v.Kind() == reflect.Slice {
		return v.Len() == 0
	}
	if v.Kind() != reflect.Struct {
		return v.IsZero()
	}
	for i := range v.NumField() {
		if !isNothing(v.Field(i)) {
			return false
		}
	}
	return true
}

func brieflyTold(values []reflect.Value) string {
	text := strings.Join(textsOf(values), ", ")
	return text[:min(len(text), 500)]
}

// emptied gives the same arguments, with nil slices for empty ones and the other way round.
func emptied(arguments []reflect.Value) []reflect.Value {
	other := slices.Clone(arguments)
	for i, v := range other {
		if v.Kind() != reflect.Slice || v.Len() > 0 {
			continue
		}
		other[i] = reflect.Zero(v.Type())
		if v.IsNil() {
			other[i] = reflect.MakeSlice(v.Type(), 0, 2)
		}
	}
	return other
}

// checkCall calls a function thrice, and tells whether it fails.
func checkCall(t *testing.T, function any, arguments []reflect.Value) bool {
	t.Helper()
	call := reflect.ValueOf(function)
	lent := slicesIn(arguments...)
	before := textsOf(lent)
	results := call.Call(arguments)
	told, failed := textsOf(results), hasFailed(t, function, arguments, results)
	given := slicesIn(results...)
	for i, v := range given {
		for _, other := range slices.Concat(lent, given[i+1:]) {
			if shareMemory(v, other) {
				t.Errorf("%s(%s) = %s shares memory", nameOf(function), brieflyTold(arguments), brieflyTold(results))
			}
		}
		for k := range v.Len() {
			v.Index(k).SetZero()
		}
	}
	for _, same := range [][]reflect.Value{arguments, emptied(arguments)} {
		if again := textsOf(call.Call(same)); !slices.Equal(again, told) {
			t.Errorf("%s(%s) = %.300q, and then %.300q", nameOf(function), brieflyTold(same), told, again)
		}
	}
	if !slices.Equal(textsOf(lent), before) {
		t.Errorf("%s(%s) changes an argument from %.300q", nameOf(function), brieflyTold(arguments), before)
	}
	return failed
}

// hasFailed tells whether the last of several results is false.
func hasFailed(t *testing.T, function any, arguments, results []reflect.Value) bool {
	t.Helper()
	last := results[len(results)-1]
	if len(results) == 1 || last.Kind() != reflect.Bool || last.Bool() {
		return false
	}
	for _, v := range results {
		if !isNothing(v) {
			t.Errorf("%s(%s) fails, and gives %s", nameOf(function), brieflyTold(arguments), brieflyTold(results))
		}
	}
	return true
}

func TestEveryFunctionReturnsAndModifiesNoArgument(t *testing.T) {
	m := maker{rand.New(rand.NewSource(13)), someSheets(60)[46:], badSheets()}
	for _, function := range functions() {
		const calls = 240
		failed := 0
		for range calls {
			if checkCall(t, function, m.arguments(function)) {
				failed++
			}
		}
		kind := reflect.TypeOf(function)
		mayFail := kind.NumOut() > 1 && kind.Out(kind.NumOut()-1).Kind() == reflect.Bool
		if mayFail != (failed > 0) || failed == calls {
			t.Errorf("%s fails in %d of %d calls", nameOf(function), failed, calls)
		}
	}
}
