package tests

import (
	"fmt"
	"math/rand"
	"regexp"
	"slices"
	"strings"
	"testing"

	"loop.example/g01220/impl"
)

func shopOf(s, stamp impl.Sheet) impl.Shop { return impl.Shop{Sheet: s, Stamp: stamp} }

// counting gives a shop other numbers of presses and of jobs.
func counting(s impl.Shop, pressed, count int) impl.Shop {
	s.Pressed, s.Count = pressed, count
	return s
}

func job(kind, a, b int) impl.Job { return impl.Job{Kind: kind, A: a, B: b} }

func jobs(list ...impl.Job) []impl.Job { return list }

func inRange(n, from, to int) bool { return from <= n && n <= to }

// doneBy makes a job of a valid shop by grids.
func doneBy(s impl.Shop, j impl.Job) (impl.Shop, bool) {
	g, stamp := gridOf(s.Sheet), gridOf(s.Stamp)
	isCell := inRange(j.A, 0, 5) && inRange(j.B, 0, 5)
	fine := s.Count < 1000
	s.Count++
	switch {
	case inRange(j.Kind, 1, 3):
		fine = fine && isCell && s.Pressed < 1000
		s.Pressed++
		if fine {
			g = each(g, stamp.moved(j.A, j.B), presses()[j.Kind-1].rule)
		}
	case j.Kind == 4:
		fine = fine && isCell
		if fine {
			g = g.moved(j.A, j.B)
		}
	case j.Kind == 5:
		fine = fine && inRange(j.A, 0, 7) && j.B == 0
		if fine {
			stamp = stamp.turned(j.A)
		}
	case j.Kind == 6:
		fine = fine && isCell
		if fine {
			stamp[j.B][j.A] = !stamp[j.B][j.A]
		}
	case j.Kind == 7:
		fine = fine && j.A == 0 && j.B == 0
		g, stamp = stamp, g
	default:
		fine = false
	}
	if !fine {
		return impl.Shop{}, false
	}
	s.Sheet, s.Stamp = g.sheet(), stamp.sheet()
	return s, true
}

// someShops gives n shops by a fixed series of numbers, some of them with the most presses or jobs, and others.
func someShops(n int) []impl.Shop {
	source := rand.New(rand.NewSource(12))
	sheets := someSheets(24)
	pick := func() impl.Sheet { return sheets[source.Intn(len(sheets))] }
	counts := []int{0, 0, 1, 7, 500, 999, 1000}
	all := []impl.Shop{{}, shopOf(sheet(3, 1), sheet(3)), shopOf(full, full), shopOf(white, full), shopOf(full, white), shopOf(uneven, chessBoard), shopOf(chessBoard, corners), shopOf(holed, diagonal)}
	for range n {
		all = append(all, counting(shopOf(pick(), pick()), counts[source.Intn(len(counts))], counts[source.Intn(len(counts))]))
	}
	return all
}

// badShops have something that is not valid, or all.
func badShops() []impl.Shop {
	var bad []impl.Shop
	for _, s := range badSheets() {
		bad = append(bad, shopOf(s, white), shopOf(white, s), shopOf(uneven, s), shopOf(s, full), shopOf(s, s), counting(shopOf(s, unit), 1000, 1000))
	}
	for _, n := range append(badNumbers(), 1001, 1002, 2000) {
		for _, s := range []impl.Shop{{}, shopOf(uneven, sheet(3)), shopOf(full, full)} {
			bad = append(bad, counting(s, n, 0), counting(s, 0, n), counting(s, n, 1000), counting(s, 1000, n), counting(s, n, n))
		}
	}
	return bad
}

// possibleJobs are all that are possible in a shop below its limits.
func possibleJobs() []impl.Job {
	all := jobs(job(7, 0, 0))
	for k := range 8 {
		all = append(all, job(5, k, 0))
	}
	for _, cell := range allCells() {
		for _, kind := range []int{1, 2, 3, 4, 6} {
			all = append(all, job(kind, cell[0], cell[1]))
		}
	}
	return all
}

// badJobs are possible in no shop.
func badJobs() []impl.Job {
	all := jobs(job(7, 1, 0), job(7, 0, 1), job(7, -1, 0), job(7, 0, -1), job(7, 5, 5), job(5, 0, 1), job(5, 7, -1), job(5, 3, 5))
	for _, kind := range append(badNumbers(), 0, 8, 9, 48, 116, 1<<32+1) {
		for _, cell := range allCells()[:8] {
			all = append(all, job(kind, cell[0], cell[1]))
		}
	}
	for _, cell := range badCells() {
		for _, kind := range []int{1, 2, 3, 4, 6, 7} {
			all = append(all, job(kind, cell[0], cell[1]))
		}
	}
	for _, k := range badTurns() {
		all = append(all, job(5, k, 0), job(5, k, k), job(5, k, 1))
	}
	for _, n := range append(badNumbers(), 1, 5, 6, 7) {
		all = append(all, job(5, 0, n), job(5, 7, n), job(7, 0, n), job(7, n, 0), job(7, n, n))
	}
	return all
}

func TestShopLimits(t *testing.T) {
	limits := []int{impl.MaxJobs, impl.MaxPressed, impl.MaxRecords, impl.MaxCommand, impl.MaxReply, impl.MaxScriptLines}
	kinds := []int{impl.JobToggle, impl.JobInk, impl.JobWipe, impl.JobShift, impl.JobTurn, impl.JobCut, impl.JobSwap}
	codes := []int{impl.LogOK, impl.LogInvalid, impl.LogFull}
	if !slices.Equal(limits, []int{1000, 1000, 60, 160, 250, 30}) || !slices.Equal(kinds, []int{1, 2, 3, 4, 5, 6, 7}) || !slices.Equal(codes, []int{0, 1, 2}) {
		t.Error("limits", limits, "kinds", kinds, "codes", codes)
	}
}

func TestIsShop(t *testing.T) {
	for _, s := range someShops(200) {
		for _, pressed := range []int{0, 1, 999, 1000} {
			for _, count := range []int{0, 1, 999, 1000} {
				if s := counting(s, pressed, count); !impl.IsShop(s) {
					t.Errorf("IsShop(%v) is false", s)
				}
			}
		}
	}
	for _, s := range badShops() {
		if impl.IsShop(s) {
			t.Errorf("IsShop(%v) is true", s)
		}
	}
}

func TestNewShop(t *testing.T) {
	for _, s := range someShops(200) {
		want := counting(s, 0, 0)
		if b, ok := impl.NewShop(s.Sheet, s.Stamp); !ok || b != want {
			t.Errorf("NewShop(%v, %v) = %v, %v", s.Sheet, s.Stamp, b, ok)
		}
	}
	for _, s := range badSheets() {
		for _, other := range []impl.Sheet{white, full, uneven, s} {
			one, first := impl.NewShop(s, other)
			two, second := impl.NewShop(other, s)
			if first || second || one != (impl.Shop{}) || two != (impl.Shop{}) {
				t.Errorf("NewShop of %v and %v = %v, %v and %v, %v", s, other, one, first, two, second)
			}
		}
	}
}

// A job row of a test has what a job makes of the Sheet and of the Stamp.
type jobRow struct {
	job      impl.Job
	s, stamp impl.Sheet
	pressed  int
}

func TestDoJob(t *testing.T) {
	for _, c := range []jobRow{
		{job(impl.JobToggle, 0, 0), sheet(0, 1), sheet(3), 1},
		{job(impl.JobToggle, 5, 5), sheet(3, 1, 0, 0, 0, 33), sheet(3), 1},
		{job(impl.JobToggle, 1, 0), sheet(5, 1), sheet(3), 1},
		{job(impl.JobInk, 1, 0), sheet(7, 1), sheet(3), 1},
		{job(impl.JobInk, 0, 0), sheet(3, 1), sheet(3), 1},
		{job(impl.JobInk, 5, 1), sheet(3, 33), sheet(3), 1},
		{job(impl.JobWipe, 0, 1), sheet(3), sheet(3), 1},
		{job(impl.JobWipe, 1, 0), sheet(1, 1), sheet(3), 1},
		{job(impl.JobWipe, 5, 5), sheet(3, 1), sheet(3), 1},
		{job(impl.JobShift, 0, 0), sheet(3, 1), sheet(3), 0},
		{job(impl.JobShift, 1, 1), sheet(0, 6, 2), sheet(3), 0},
		{job(impl.JobShift, 5, 0), sheet(33, 32), sheet(3), 0},
		{job(impl.JobShift, 0, 5), sheet(1, 0, 0, 0, 0, 3), sheet(3), 0},
		{job(impl.JobTurn, 0, 0), sheet(3, 1), sheet(3), 0},
		{job(impl.JobTurn, 1, 0), sheet(3, 1), sheet(32, 32), 0},
		{job(impl.JobTurn, 2, 0), sheet(3, 1), sheet(0, 0, 0, 0, 0, 48), 0},
		{job(impl.JobTurn, 7, 0), sheet(3, 1), sheet(0, 0, 0, 0, 32, 32), 0},
		{job(impl.JobCut, 0, 0), sheet(3, 1), sheet(2), 0},
		{job(impl.JobCut, 2, 0), sheet(3, 1), sheet(7), 0},
		{job(impl.JobCut, 5, 4), sheet(3, 1), sheet(3, 0, 0, 0, 32), 0},
		{job(impl.JobSwap, 0, 0), sheet(3), sheet(3, 1), 0},
	} {
		want := counting(shopOf(c.s, c.stamp), 4+c.pressed, 10)
		if s, ok := impl.DoJob(counting(shopOf(sheet(3, 1), sheet(3)), 4, 9), c.job); !ok || s != want {
			t.Errorf("DoJob of %v = %v, %v, not %v", c.job, s, ok, want)
		}
	}
}

func checkJob(t *testing.T, s impl.Shop, j impl.Job) {
	t.Helper()
	want, can := doneBy(s, j)
	if next, ok := impl.DoJob(s, j); ok != can || next != want {
		t.Fatalf("DoJob(%v, %v) = %v, %v, not %v, %v", s, j, next, ok, want, can)
	}
}

func TestJobsMatchGrids(t *testing.T) {
	for _, s := range someShops(60) {
		for _, j := range slices.Concat(possibleJobs(), badJobs()) {
			checkJob(t, s, j)
		}
	}
	for _, j := range possibleJobs() {
		if _, ok := doneBy(impl.Shop{}, j); !ok {
			t.Errorf("%v is not possible", j)
		}
	}
	for _, j := range badJobs() {
		if _, ok := doneBy(impl.Shop{}, j); ok {
			t.Errorf("%v is possible", j)
		}
	}
}

func TestJobsWithNumbersBeyondTheCells(t *testing.T) {
	s := shopOf(uneven, sheet(3))
	for kind := -1; kind <= 9; kind++ {
		for a := -2; a <= 9; a++ {
			for b := -2; b <= 9; b++ {
				checkJob(t, s, job(kind, a, b))
			}
		}
	}
}

func TestJobsAtTheLimits(t *testing.T) {
	for _, j := range possibleJobs() {
		isPress := j.Kind <= impl.JobWipe
		for _, c := range []struct {
			pressed, count int
			possible       bool
		}{
			{1000, 0, !isPress}, {1000, 999, !isPress}, {999, 0, true}, {999, 999, true}, {0, 999, true}, {0, 1000, false}, {999, 1000, false}, {1000, 1000, false},
		} {
			s := counting(shopOf(uneven, sheet(3)), c.pressed, c.count)
			next, ok := impl.DoJob(s, j)
			if ok != c.possible || !ok && next != (impl.Shop{}) || ok && (next.Count != c.count+1 || !impl.IsShop(next)) {
				t.Errorf("DoJob(%v, %v) = %v, %v", s, j, next, ok)
			}
		}
	}
	s := counting(shopOf(uneven, sheet(3)), 1000, 4)
	for _, k := range badTurns() {
		if next, ok := impl.DoJob(s, job(impl.JobTurn, k, 0)); ok || next != (impl.Shop{}) {
			t.Errorf("DoJob(%v) of the turn %d = %v, %v", s, k, next, ok)
		}
	}
}

func TestJobsOfInvalidShopsFail(t *testing.T) {
	for _, s := range badShops() {
		for _, j := range slices.Concat(possibleJobs()[:14], jobs(impl.Job{}, job(4, -1, 0))) {
			if next, ok := impl.DoJob(s, j); ok || next != (impl.Shop{}) {
				t.Fatalf("DoJob(%v, %v) = %v, %v", s, j, next, ok)
			}
		}
		for _, list := range [][]impl.Job{nil, {}, {job(4, 1, 1)}, {job(7, 0, 0), job(1, 0, 0)}, {{}}} {
			if end, many, ok := impl.DoJobs(s, list); ok || many != 0 || end != (impl.Shop{}) {
				t.Fatalf("DoJobs(%v, %v) = %v, %d, %v", s, list, end, many, ok)
			}
		}
		if n, ok := impl.CommonCells(s); ok || n != 0 {
			t.Fatalf("CommonCells(%v) = %d, %v", s, n, ok)
		}
	}
}

func checkJobs(t *testing.T, s impl.Shop, list []impl.Job, want impl.Shop, made int) {
	t.Helper()
	if end, many, ok := impl.DoJobs(s, list); !ok || many != made || end != want {
		t.Errorf("DoJobs(%v) of %d jobs, %v first = %v, %d, %v, not %v, %d", s, len(list), list[:min(len(list), 6)], end, many, ok, want, made)
	}
}

func TestDoJobs(t *testing.T) {
	s := shopOf(sheet(3, 1), sheet(3))
	one := counting(shopOf(sheet(7, 1), sheet(3)), 1, 1)
	two := counting(shopOf(sheet(0, 14, 2), sheet(3)), 1, 2)
	three := counting(shopOf(sheet(3), sheet(0, 14, 2)), 1, 3)
	good := jobs(job(2, 1, 0), job(4, 1, 1), job(7, 0, 0))
	for k, want := range []impl.Shop{s, one, two, three} {
		checkJobs(t, s, good[:k], want, k)
		for _, bad := range []impl.Job{{}, job(8, 0, 0), job(1, 6, 0), job(3, 0, -1), job(4, 6, 0), job(4, 0, -1), job(5, 8, 0), job(5, 1, 1), job(6, 6, 6), job(7, 1, 0)} {
			checkJobs(t, s, slices.Concat(good[:k], jobs(bad)), want, k)
			checkJobs(t, s, slices.Concat(good[:k], jobs(bad), good), want, k)
			checkJobs(t, s, slices.Concat(good[:k], jobs(bad, bad)), want, k)
		}
	}
	checkJobs(t, s, nil, s, 0)
	checkJobs(t, s, jobs(), s, 0)
	checkJobs(t, impl.Shop{}, nil, impl.Shop{}, 0)
}

func TestDoJobsUpToTheLimits(t *testing.T) {
	s := shopOf(uneven, unit)
	toggles, swaps := slices.Repeat(jobs(job(1, 0, 0)), 1003), slices.Repeat(jobs(job(7, 0, 0)), 1003)
	checkJobs(t, s, toggles[:999], counting(shopOf(differ(uneven, unit), unit), 999, 999), 999)
	for _, n := range []int{1000, 1001, 1003} {
		checkJobs(t, s, toggles[:n], counting(s, 1000, 1000), 1000)
		checkJobs(t, s, swaps[:n], counting(s, 0, 1000), 1000)
	}
	checkJobs(t, counting(s, 998, 3), slices.Concat(swaps[:2], toggles[:4], swaps[:2]), counting(s, 1000, 7), 4)
	checkJobs(t, counting(s, 1000, 3), slices.Concat(swaps[:2], toggles[:1]), counting(s, 1000, 5), 2)
	checkJobs(t, counting(s, 1000, 3), jobs(job(5, 8, 0)), counting(s, 1000, 3), 0)
	checkJobs(t, counting(s, 1000, 1000), swaps, counting(s, 1000, 1000), 0)
	checkJobs(t, counting(s, 0, 998), swaps, counting(s, 0, 1000), 2)
}

func TestDoJobsMatchGrids(t *testing.T) {
	source := rand.New(rand.NewSource(121))
	good, bad := possibleJobs(), badJobs()
	for i, s := range someShops(300) {
		var list []impl.Job
		for range source.Intn(30) {
			list = append(list, good[source.Intn(len(good))])
		}
		if i%2 == 0 {
			list = slices.Insert(list, source.Intn(len(list)+1), bad[source.Intn(len(bad))])
		}
		end, many := s, 0
		for _, j := range list {
			next, ok := doneBy(end, j)
			if !ok {
				break
			}
			end, many = next, many+1
		}
		before := slices.Clone(list)
		checkJobs(t, s, list, end, many)
		if !slices.Equal(list, before) {
			t.Fatalf("DoJobs(%v) left %v of %v", s, list, before)
		}
	}
}

func TestCommonCells(t *testing.T) {
	for _, c := range []struct {
		s, stamp impl.Sheet
		want     int
	}{
		{white, white, 0}, {white, full, 0}, {full, full, 36}, {full, sheet(3, 1), 3}, {sheet(3, 1), sheet(6, 1), 2}, {sheet(3), sheet(0, 3), 0}, {chessBoard, full, 18},
	} {
		for _, s := range []impl.Shop{shopOf(c.s, c.stamp), shopOf(c.stamp, c.s), counting(shopOf(c.s, c.stamp), 1000, 1000)} {
			if n, ok := impl.CommonCells(s); !ok || n != c.want {
				t.Errorf("CommonCells(%v) = %d, %v, not %d", s, n, ok, c.want)
			}
		}
	}
	for _, s := range someShops(300) {
		want := common(gridOf(s.Sheet), gridOf(s.Stamp))
		if n, ok := impl.CommonCells(s); !ok || n != want {
			t.Errorf("CommonCells(%v) = %d, %v, not %d", s, n, ok, want)
		}
	}
}

func record(command, reply string) impl.LogRecord {
	return impl.LogRecord{Command: command, Reply: reply}
}

// longest is a record with the most bytes.
var longest = record(strings.Repeat("w", 160), strings.Repeat("9", 250))

func goodRecords() []impl.LogRecord {
	return []impl.LogRecord{record("size", "?"), record("a", ""), record(" ", " "), record("~", "~@"), record("toggle 0 0", "3 1 0 0 0 0"), record("a b  c", "@@ x@"), record("0 a", "1 b@c"), record("-", "@"),
		longest, record(longest.Command, ""), record("x", longest.Reply), record(strings.Repeat(" ", 159)+"~", strings.Repeat("@", 250)), record("\"$%&'()*+,-./", ":;<=>?!\\[]^_`{|}"), record("60 a", "b")}
}

func badRecords() []impl.LogRecord {
	bad := []impl.LogRecord{record("", ""), record("", "a"), record("", longest.Reply), record(longest.Command+"w", ""), record(longest.Command+"w", longest.Reply), record(longest.Command, longest.Reply+"9"), record("a", longest.Reply+"9"),
		record("@", ""), record("a@", "b"), record("@a", "b"), record("a@b", "c"), record(strings.Repeat("w", 1<<16), ""), record("w", strings.Repeat("9", 1<<16))}
	for _, c := range []byte{0, 9, 10, 13, 31, '#', 127, 128, 160, 255} {
		sign := string([]byte{c})
		for _, text := range []string{sign, sign + "a", "a" + sign, "a" + sign + "b", sign + strings.Repeat("a", 159), strings.Repeat("a", 159) + sign} {
			bad = append(bad, record(text, ""), record(text, "a"), record("a", text), record(text, text))
		}
		bad = append(bad, record("a", longest.Reply[:249]+sign), record("a", sign+longest.Reply[:249]))
	}
	return append(bad, record("é", "a"), record("a", "é"))
}

func TestIsValidRecord(t *testing.T) {
	for _, e := range goodRecords() {
		if !impl.IsValidRecord(e) {
			t.Errorf("IsValidRecord(%q) is false", e)
		}
	}
	for _, e := range badRecords() {
		if impl.IsValidRecord(e) {
			t.Errorf("IsValidRecord(%.80q) is true", e)
		}
	}
}

func TestBytesOfRecords(t *testing.T) {
	for c := range 256 {
		sign := string([]byte{byte(c)})
		inReply := inRange(c, 32, 126) && c != '#'
		for _, around := range []string{"", "a"} {
			text := around + sign + around
			if got := impl.IsValidRecord(record("a", text)); got != inReply {
				t.Errorf("IsValidRecord with the reply %q is %v", text, got)
			}
			if got := impl.IsValidRecord(record(text, "a")); got != (inReply && c != '@') {
				t.Errorf("IsValidRecord with the command %q is %v", text, got)
			}
		}
	}
}

// lineOf makes an encoding, also of what is no record.
func lineOf(text string) string { return sealed(text) + "\n" }

func encodedBy(k int, e impl.LogRecord) string {
	return lineOf(fmt.Sprintf("%d %s@%s", k, e.Command, e.Reply))
}

func TestEncodeRecord(t *testing.T) {
	for _, c := range []struct {
		k    int
		e    impl.LogRecord
		want string
	}{
		{0, record("a", ""), "0 a@#217495\n"}, {0, record("size", "?"), "0 size@?#761019\n"}, {7, record("swap", "3 0 0 0 0 0"), "7 swap@3 0 0 0 0 0#248192\n"}, {59, record("a b", "@@"), "59 a b@@@#546777\n"},
	} {
		if s, ok := impl.EncodeRecord(c.k, c.e); !ok || s != c.want {
			t.Errorf("EncodeRecord(%d, %q) = %q, %v, not %q", c.k, c.e, s, ok, c.want)
		}
	}
	for _, e := range goodRecords() {
		for k := range 60 {
			if s, ok := impl.EncodeRecord(k, e); !ok || s != encodedBy(k, e) {
				t.Errorf("EncodeRecord(%d, %q) = %q, %v", k, e, s, ok)
			}
		}
	}
}

func TestNoEncoding(t *testing.T) {
	for _, k := range append(badNumbers(), 60, 61, 100, 1000000) {
		for _, e := range goodRecords() {
			if s, ok := impl.EncodeRecord(k, e); ok || s != "" {
				t.Errorf("EncodeRecord(%d, %q) = %q, %v", k, e, s, ok)
			}
		}
	}
	for _, k := range []int{0, 1, 59, 60, -1} {
		for _, e := range badRecords() {
			if s, ok := impl.EncodeRecord(k, e); ok || s != "" {
				t.Errorf("EncodeRecord(%d, %.80q) = %.80q, %v", k, e, s, ok)
			}
		}
	}
}

// someRecords gives n records, by a rule.
func someRecords(n int) []impl.LogRecord {
	var list []impl.LogRecord
	for k := range n {
		list = append(list, goodRecords()[k%len(goodRecords())])
	}
	return list
}

func textOfRecords(list []impl.LogRecord) string {
	var text strings.Builder
	for k, e := range list {
		text.WriteString(encodedBy(k, e))
	}
	return text.String()
}

// logOf makes a log of which some records are durable.
func logOf(list []impl.LogRecord, durable int) impl.Log {
	whole, kept := textOfRecords(list), textOfRecords(list[:durable])
	return impl.Log{Durable: kept, Pending: whole[len(kept):], Count: len(list)}
}

// goodLogs have from none to all of their records durable.
func goodLogs() []impl.Log {
	logs := []impl.Log{{}}
	for _, n := range []int{1, 2, 3, 7, 59, 60} {
		for _, durable := range []int{0, 1, n / 2, n - 1, n} {
			logs = append(logs, logOf(someRecords(n), durable))
		}
	}
	longLog := slices.Repeat([]impl.LogRecord{longest}, 60)
	return append(logs, logOf(longLog, 0), logOf(longLog, 30), logOf(longLog, 60), logOf(longLog[:1], 0))
}

// badLines are not the encoding of a record with the number 0.
func badLines() []string {
	return []string{"\n", "\n\n", "#7\n", lineOf(""), lineOf("0"), lineOf("0 "), lineOf("0 a"), lineOf("0a@b"), lineOf("0@b"), lineOf("0 @b"), lineOf("0 @"), lineOf(" a@b"), lineOf("a@b"), lineOf("@"), lineOf("1 a@b"), lineOf("-0 a@b"), lineOf("+0 a@b"),
		lineOf("00 a@b"), lineOf(" 0 a@b"), lineOf("60 a@b"), lineOf("-1 a@b"), lineOf("0 a\x1f@b"), lineOf("0 a@b\x7f"), lineOf("0 a@\n"), lineOf("0 a\n@b"), lineOf("0 " + longest.Command + "w@b"), lineOf("0 a@" + longest.Reply + "9"),
		"0 a@b\n", "0 a@b#\n", sealed("0 a@b"), sealed("0 a@b") + " \n", sealed("0 a@b") + "\r\n", sealed("0 a@b") + "0\n", " " + lineOf("0 a@b"), "\n" + lineOf("0 a@b"), strings.Replace(lineOf("0 a@b"), "#", "#0", 1), strings.Replace(lineOf("0 a@b"), "#", "##", 1),
		strings.Replace(lineOf("0 a@b"), "#", "#+", 1), strings.Replace(lineOf("0 a@b"), "#", "", 1), "0 a@b#7\n", lineOf("0 a@b#c"), sealed("0 a@b") + "#1\n", "0 a@b" + strings.TrimPrefix(lineOf("0 a@c"), "0 a@c")}
}

// badLogs have a wrong Count, wrong numbers of records, a Durable that ends within one, or bytes that are none.
func badLogs() []impl.Log {
	var bad []impl.Log
	for _, l := range goodLogs() {
		for _, n := range append(badNumbers(), 61, l.Count-1, l.Count+1) {
			bad = append(bad, impl.Log{Durable: l.Durable, Pending: l.Pending, Count: n})
		}
		for _, text := range []string{"\n", " ", "0", "a", lineOf("61 a@b"), strings.Repeat("a", 30000-len(l.Durable+l.Pending)), strings.Repeat("a", 30001-len(l.Durable+l.Pending))} {
			bad = append(bad, impl.Log{Durable: l.Durable, Pending: l.Pending + text, Count: l.Count}, impl.Log{Durable: l.Durable + text, Pending: l.Pending, Count: l.Count}, impl.Log{Durable: text + l.Durable, Pending: l.Pending, Count: l.Count + 1})
		}
	}
	for _, line := range badLines() {
		bad = append(bad, impl.Log{Durable: line, Count: 1}, impl.Log{Pending: line, Count: 1}, impl.Log{Pending: line})
	}
	whole := textOfRecords(someRecords(3))
	for i := range whole {
		if i > 0 && whole[i-1] != '\n' {
			bad = append(bad, impl.Log{Durable: whole[:i], Pending: whole[i:], Count: 3})
		}
	}
	list := someRecords(62)
	for _, numbers := range [][]int{{1}, {1, 2}, {0, 2}, {0, 0}, {0, 1, 1}, {0, 1, 3}, {1, 0}, {0, 2, 1}, {0, 1, 2, 2, 3}, {60}} {
		text := ""
		for k, n := range numbers {
			text += encodedBy(n, list[k])
		}
		bad = append(bad, impl.Log{Durable: text, Count: len(numbers)}, impl.Log{Pending: text, Count: len(numbers)}, impl.Log{Durable: text[:strings.Index(text, "\n")+1], Pending: text[strings.Index(text, "\n")+1:], Count: len(numbers)})
	}
	for _, n := range []int{61, 62} {
		bad = append(bad, logOf(list[:n], 0), logOf(list[:n], 60), logOf(list[:n], n), impl.Log{Durable: textOfRecords(list[:n]), Count: 60})
	}
	return bad
}

// changedLogs have one byte changed, at each place.
func changedLogs() []impl.Log {
	var bad []impl.Log
	l := logOf(someRecords(7), 3)
	whole := []byte(l.Durable + l.Pending)
	for i, c := range whole {
		for _, other := range []byte{0, 10, ' ', '#', '0', '@', 'a', 255 - c, c ^ 1} {
			if other == c {
				continue
			}
			whole[i] = other
			bad = append(bad, impl.Log{Durable: string(whole[:len(l.Durable)]), Pending: string(whole[len(l.Durable):]), Count: 7})
		}
		whole[i] = c
	}
	return bad
}

func briefLog(l impl.Log) string {
	return fmt.Sprintf("{%.60q of %d bytes, %.60q of %d bytes, %d}", l.Durable, len(l.Durable), l.Pending, len(l.Pending), l.Count)
}

func TestIsValidLog(t *testing.T) {
	for _, l := range goodLogs() {
		if !impl.IsValidLog(l) {
			t.Errorf("IsValidLog(%s) is false", briefLog(l))
		}
	}
	for _, l := range slices.Concat(badLogs(), changedLogs()) {
		if impl.IsValidLog(l) {
			t.Errorf("IsValidLog(%s) is true", briefLog(l))
		}
	}
}

func TestDurableEndsBehindARecord(t *testing.T) {
	list := someRecords(8)
	whole := textOfRecords(list)
	for i := range len(whole) + 1 {
		want := i == 0 || whole[i-1] == '\n'
		if got := impl.IsValidLog(impl.Log{Durable: whole[:i], Pending: whole[i:], Count: 8}); got != want {
			t.Errorf("IsValidLog with %d durable bytes is %v", i, got)
		}
	}
}

func checkNotLogged(t *testing.T, l impl.Log) {
	t.Helper()
	for _, e := range []impl.LogRecord{record("a", "b"), record("", ""), longest} {
		if next, code := impl.AppendRecord(l, e); code != impl.LogInvalid || next != l {
			t.Errorf("AppendRecord(%s) = %s, %d", briefLog(l), briefLog(next), code)
		}
	}
	if next, ok := impl.SyncLog(l); ok || next != (impl.Log{}) {
		t.Errorf("SyncLog(%s) = %s, %v", briefLog(l), briefLog(next), ok)
	}
	for _, keep := range []int{-1, 0, 1, len(l.Pending), len(l.Pending) + 1} {
		for _, torn := range []bool{false, true} {
			if s, ok := impl.CrashLog(l, keep, torn); ok || s != "" {
				t.Errorf("CrashLog(%s, %d, %v) = %.60q, %v", briefLog(l), keep, torn, s, ok)
			}
		}
	}
	if list, ok := impl.LogRecords(l); ok || len(list) != 0 {
		t.Errorf("LogRecords(%s) = %d records, %v", briefLog(l), len(list), ok)
	}
	if n, ok := impl.ReplayLog(impl.Shop{}, l); ok || n != 0 {
		t.Errorf("ReplayLog(%s) = %d, %v", briefLog(l), n, ok)
	}
	checkNoConsole(t, impl.Console{Log: l})
}

func checkNoConsole(t *testing.T, c impl.Console) {
	t.Helper()
	if impl.IsValidConsole(c) {
		t.Errorf("IsValidConsole(%v, %s)", c.Shop, briefLog(c.Log))
	}
	for _, line := range []string{"sheet", "", "a@b", longest.Command + "w"} {
		if next, reply := impl.ExecuteCommand(c, line); reply != "no" || next != c {
			t.Errorf("ExecuteCommand(%v, %s, %q) = %v, %s, %q", c.Shop, briefLog(c.Log), line, next.Shop, briefLog(next.Log), reply)
		}
	}
	for _, text := range []string{"", "sheet", "sheet\nsize"} {
		if replies, ok := impl.RunScript(c, text); ok || len(replies) != 0 {
			t.Errorf("RunScript(%v, %s, %q) = %q, %v", c.Shop, briefLog(c.Log), text, replies, ok)
		}
	}
}

func TestInvalidLogsFail(t *testing.T) {
	for _, l := range badLogs() {
		checkNotLogged(t, l)
	}
	for i, l := range changedLogs() {
		if i%5 == 0 {
			checkNotLogged(t, l)
		}
	}
}

func TestAppendRecord(t *testing.T) {
	for _, list := range [][]impl.LogRecord{someRecords(60), slices.Repeat([]impl.LogRecord{longest}, 60)} {
		for _, durable := range []int{0, 1, 30} {
			l := logOf(list[:durable], durable)
			for k := durable; k < len(list); k++ {
				next, code := impl.AppendRecord(l, list[k])
				if want := logOf(list[:k+1], durable); code != impl.LogOK || next != want {
					t.Fatalf("AppendRecord of %q at %d = %s, %d, not %s", list[k], k, briefLog(next), code, briefLog(want))
				}
				l = next
			}
		}
	}
}

func TestAppendRecordChecksInOrder(t *testing.T) {
	for _, l := range goodLogs() {
		for _, e := range badRecords() {
			if next, code := impl.AppendRecord(l, e); code != impl.LogInvalid || next != l {
				t.Fatalf("AppendRecord(%s, %.80q) = %s, %d", briefLog(l), e, briefLog(next), code)
			}
		}
		if l.Count < 60 {
			continue
		}
		for _, e := range goodRecords() {
			if next, code := impl.AppendRecord(l, e); code != impl.LogFull || next != l {
				t.Fatalf("AppendRecord(%s, %q) = %s, %d", briefLog(l), e, briefLog(next), code)
			}
		}
	}
}

func TestSyncLog(t *testing.T) {
	for _, l := range goodLogs() {
		want := impl.Log{Durable: l.Durable + l.Pending, Count: l.Count}
		once, ok := impl.SyncLog(l)
		twice, again := impl.SyncLog(once)
		if !ok || !again || once != want || twice != want {
			t.Errorf("SyncLog(%s) = %s, %v", briefLog(l), briefLog(once), ok)
		}
	}
}

// survivingBy gives what a crash leaves.
func survivingBy(l impl.Log, keep int, torn bool) string {
	pending := []byte(l.Pending)[:keep]
	if torn && keep > 0 {
		pending[keep-1] = 255 - pending[keep-1]
	}
	return l.Durable + string(pending)
}

func TestCrashLog(t *testing.T) {
	line := encodedBy(0, record("a", "b"))
	l := impl.Log{Pending: line, Count: 1}
	for _, c := range []struct {
		keep int
		torn bool
		want string
	}{
		{0, false, ""}, {0, true, ""}, {1, false, "0"}, {1, true, "\xcf"}, {2, true, "0\xdf"}, {len(line), false, line}, {len(line), true, line[:len(line)-1] + "\xf5"}, {4, true, "0 a\xbf"},
	} {
		if s, ok := impl.CrashLog(l, c.keep, c.torn); !ok || s != c.want {
			t.Errorf("CrashLog of %q, %d, %v = %q, %v, not %q", line, c.keep, c.torn, s, ok, c.want)
		}
	}
	for _, l := range goodLogs() {
		keeps := []int{0, 1, 2, len(l.Pending) / 3, len(l.Pending) / 2, len(l.Pending) - 2, len(l.Pending) - 1, len(l.Pending)}
		for _, keep := range keeps {
			for _, torn := range []bool{false, true} {
				if !inRange(keep, 0, len(l.Pending)) {
					continue
				}
				if s, ok := impl.CrashLog(l, keep, torn); !ok || s != survivingBy(l, keep, torn) {
					t.Errorf("CrashLog(%s, %d, %v) = %d bytes, %v", briefLog(l), keep, torn, len(s), ok)
				}
			}
		}
		for _, keep := range append(badNumbers(), len(l.Pending)+1, len(l.Pending)+2, len(l.Pending)+len(l.Durable)+1) {
			for _, torn := range []bool{false, true} {
				if s, ok := impl.CrashLog(l, keep, torn); ok || s != "" {
					t.Errorf("CrashLog(%s, %d, %v) = %d bytes, %v", briefLog(l), keep, torn, len(s), ok)
				}
			}
		}
	}
}

var recordText = regexp.MustCompile("^(0|[1-9][0-9]?) [ !\"$-?A-~]{1,160}@[ !\"$-~]{0,250}$")

// recoveredBy reads the lines of a text one by one.
func recoveredBy(s string) impl.Log {
	var l impl.Log
	for {
		line, rest, ended := strings.Cut(s, "\n")
		text, _, _ := strings.Cut(line, "#")
		if !ended || l.Count == 60 || line != sealed(text) || !recordText.MatchString(text) || !strings.HasPrefix(text, fmt.Sprint(l.Count)+" ") {
			return l
		}
		l.Durable += line + "\n"
		l.Count++
		s = rest
	}
}

func checkRecovered(t *testing.T, s string, want impl.Log) {
	t.Helper()
	l, read, ok := impl.RecoverLog(s)
	if !ok || read != len(want.Durable) || l != want || !impl.IsValidLog(l) {
		t.Errorf("RecoverLog of %.60q, %d bytes = %s, %d, %v, not %s", s, len(s), briefLog(l), read, ok, briefLog(want))
	}
}

func TestRecoverLog(t *testing.T) {
	checkRecovered(t, "", impl.Log{})
	for _, l := range goodLogs() {
		whole := l.Durable + l.Pending
		all := impl.Log{Durable: whole, Count: l.Count}
		checkRecovered(t, whole, all)
		for _, more := range []string{"\n", "a", "0", encodedBy(l.Count-1, record("a", "b")), encodedBy(l.Count+1, record("a", "b")), encodedBy(60, record("a", "b")), sealed(fmt.Sprint(l.Count, " a@b")), fmt.Sprint(l.Count, " a@b#7\n"), strings.Repeat("a", 30000-len(whole))} {
			checkRecovered(t, whole+more, all)
		}
		for _, more := range []int{30001 - len(whole), 1 << 16} {
			if other, read, ok := impl.RecoverLog(whole + strings.Repeat("a", more)); ok || read != 0 || other != (impl.Log{}) {
				t.Errorf("RecoverLog of %d bytes = %s, %d, %v", len(whole)+more, briefLog(other), read, ok)
			}
		}
	}
	for _, n := range []int{61, 62, 90} {
		list := slices.Repeat([]impl.LogRecord{record("size", "3")}, n)
		checkRecovered(t, textOfRecords(list), logOf(list[:60], 60))
	}
	most := slices.Repeat([]impl.LogRecord{longest}, 71)
	checkRecovered(t, textOfRecords(most), logOf(most[:60], 60))
	for _, line := range badLines() {
		checkRecovered(t, line, impl.Log{})
		checkRecovered(t, line+encodedBy(0, record("a", "b")), impl.Log{})
		checkRecovered(t, line+encodedBy(1, record("a", "b")), impl.Log{})
	}
}

func TestRecoverLogCutAtEachByte(t *testing.T) {
	for _, list := range [][]impl.LogRecord{someRecords(12), {longest, longest}} {
		whole := textOfRecords(list)
		for i := range len(whole) + 1 {
			whole := whole[:i]
			n := strings.Count(whole, "\n")
			checkRecovered(t, whole, logOf(list[:n], n))
		}
	}
}

func TestRecoverLogWithAByteChanged(t *testing.T) {
	list := someRecords(7)
	for _, l := range changedLogs() {
		s := l.Durable + l.Pending
		want := recoveredBy(s)
		if want.Count == len(list) || want.Durable != textOfRecords(list[:want.Count]) {
			t.Fatalf("%q has records", s)
		}
		checkRecovered(t, s, want)
	}
	for _, l := range badLogs() {
		if s := l.Durable + l.Pending; len(s) <= 30000 {
			checkRecovered(t, s, recoveredBy(s))
		}
	}
}

func TestRecoverBehindACrash(t *testing.T) {
	for _, durable := range []int{0, 1, 4, 9} {
		list := someRecords(9)
		l := logOf(list, durable)
		for keep := range len(l.Pending) + 1 {
			for _, torn := range []bool{false, true} {
				left, ok := impl.CrashLog(l, keep, torn)
				whole := l.Pending[:keep]
				if torn && keep > 0 {
					whole = whole[:keep-1]
				}
				n := durable + strings.Count(whole, "\n")
				if !ok || n < durable {
					t.Fatalf("CrashLog(%s, %d, %v) = %q, %v", briefLog(l), keep, torn, left, ok)
				}
				checkRecovered(t, left, logOf(list[:n], n))
			}
		}
	}
}

func TestLogRecords(t *testing.T) {
	for _, n := range []int{0, 1, 2, 13, 14, 15, 59, 60} {
		want := someRecords(n)
		for _, durable := range []int{0, n / 2, n} {
			if list, ok := impl.LogRecords(logOf(want, durable)); !ok || !slices.Equal(list, want) {
				t.Errorf("LogRecords of %d records = %q, %v", n, list, ok)
			}
		}
	}
}

func consoleOf(s impl.Shop, records ...impl.LogRecord) impl.Console {
	return impl.Console{Shop: s, Log: logOf(records, 0)}
}

func TestNewConsole(t *testing.T) {
	for _, s := range someShops(200) {
		c, ok := impl.NewConsole(s)
		if !ok || c != (impl.Console{Shop: s}) || !impl.IsValidConsole(c) {
			t.Errorf("NewConsole(%v) = %v, %v", s, c, ok)
		}
	}
	for _, s := range badShops() {
		if c, ok := impl.NewConsole(s); ok || c != (impl.Console{}) {
			t.Errorf("NewConsole(%v) = %v, %v", s, c, ok)
		}
	}
}

func TestIsValidConsole(t *testing.T) {
	for i, l := range goodLogs() {
		for _, s := range []impl.Shop{{}, someShops(40)[i], counting(shopOf(full, unit), 1000, 1000)} {
			if !impl.IsValidConsole(impl.Console{Shop: s, Log: l}) {
				t.Errorf("IsValidConsole(%v, %s) is false", s, briefLog(l))
			}
		}
	}
	for i, s := range badShops() {
		if impl.IsValidConsole(impl.Console{Shop: s}) {
			t.Errorf("IsValidConsole with the shop %v", s)
		}
		if i%9 == 0 {
			checkNoConsole(t, consoleOf(s))
			checkNoConsole(t, consoleOf(s, someRecords(60)...))
			checkNoConsole(t, impl.Console{Shop: s, Log: impl.Log{Count: 1}})
		}
	}
}

// numbersBy tells numbers of any size, as a list.
func numbersBy(numbers any) string {
	if text := strings.Trim(fmt.Sprint(numbers), "[]"); text != "" {
		return text
	}
	return "none"
}

func fractionBy(f [2]int) string { return fmt.Sprintf("%d/%d", f[0], f[1]) }

func reportBy(yes bool) string { return map[bool]string{true: "yes", false: "no"}[yes] }

// A command has what it makes of a shop with the numbers behind its name, and what it tells.
type command struct {
	name    string
	numbers int
	call    func(s impl.Shop, a, b int) (impl.Shop, string, bool)
}

func jobCommand(name string, numbers, kind int) command {
	return command{name, numbers, func(s impl.Shop, a, b int) (impl.Shop, string, bool) {
		numbers := append([]int{a, b}[:numbers], 0, 0)
		next, ok := impl.DoJob(s, job(kind, numbers[0], numbers[1]))
		if kind == impl.JobTurn || kind == impl.JobCut {
			return next, numbersBy(next.Stamp.Rows), ok
		}
		return next, numbersBy(next.Sheet.Rows), ok
	}}
}

func tellingCommand(name string, numbers int, told func(s impl.Shop, a, b int) (string, bool)) command {
	return command{name, numbers, func(s impl.Shop, a, b int) (impl.Shop, string, bool) {
		text, ok := told(s, a, b)
		return s, text, ok
	}}
}

// A telling takes the results of a function of another chapter.
func numberTold(call func(impl.Sheet) (int, bool)) func(impl.Shop, int, int) (string, bool) {
	return func(s impl.Shop, _, _ int) (string, bool) {
		n, ok := call(s.Sheet)
		return numbersBy(n), ok
	}
}

func rowsTold(call func(impl.Sheet, impl.Sheet) (impl.Sheet, bool)) func(impl.Shop, int, int) (string, bool) {
	return func(s impl.Shop, _, _ int) (string, bool) {
		told, ok := call(s.Sheet, s.Stamp)
		return numbersBy(told.Rows), ok
	}
}

func reportTold(call func(impl.Sheet, impl.Sheet) (bool, bool)) func(impl.Shop, int, int) (string, bool) {
	return func(s impl.Shop, _, _ int) (string, bool) {
		yes, ok := call(s.Sheet, s.Stamp)
		return reportBy(yes), ok
	}
}

// commands are all of the document's table.
func commands() []command {
	return []command{
		jobCommand("toggle", 2, impl.JobToggle), jobCommand("ink", 2, impl.JobInk), jobCommand("wipe", 2, impl.JobWipe), jobCommand("shift", 2, impl.JobShift),
		jobCommand("turn", 1, impl.JobTurn), jobCommand("cut", 2, impl.JobCut), jobCommand("swap", 0, impl.JobSwap),
		tellingCommand("sheet", 0, func(s impl.Shop, _, _ int) (string, bool) { return numbersBy(s.Sheet.Rows), true }),
		tellingCommand("stamp", 0, func(s impl.Shop, _, _ int) (string, bool) { return numbersBy(s.Stamp.Rows), true }),
		tellingCommand("pressed", 0, func(s impl.Shop, _, _ int) (string, bool) { return numbersBy(s.Pressed), true }),
		tellingCommand("size", 0, numberTold(impl.SizeOf)),
		tellingCommand("black", 2, func(s impl.Shop, a, b int) (string, bool) {
			yes, ok := impl.IsBlack(s.Sheet, [2]int{a, b})
			return reportBy(yes), ok
		}),
		tellingCommand("first", 0, func(s impl.Shop, _, _ int) (string, bool) {
			form, _, ok := impl.FirstForm(s.Sheet)
			return numbersBy(form.Rows), ok
		}),
		tellingCommand("forms", 0, numberTold(impl.CountForms)),
		tellingCommand("spread", 0, rowsTold(impl.SpreadSheet)), tellingCommand("shrink", 0, rowsTold(impl.ShrinkSheet)),
		tellingCommand("opened", 0, reportTold(impl.IsOpened)), tellingCommand("closed", 0, reportTold(impl.IsClosed)),
		tellingCommand("periods", 0, func(s impl.Shop, _, _ int) (string, bool) {
			periods, ok := impl.PeriodsOf(s.Sheet)
			return numbersBy(len(periods)), ok
		}),
		tellingCommand("tile", 0, func(s impl.Shop, _, _ int) (string, bool) {
			tile, ok := impl.LeastTile(s.Sheet)
			return numbersBy(tile), ok
		}),
		tellingCommand("slants", 0, func(s impl.Shop, _, _ int) (string, bool) {
			slants, ok := impl.SlantsOf(s.Sheet)
			return numbersBy(slants), ok
		}),
		tellingCommand("fits", 0, func(s impl.Shop, _, _ int) (string, bool) {
			fits, ok := impl.ChanceFits(s.Sheet, s.Stamp)
			return fractionBy(fits), ok
		}),
		tellingCommand("mean", 1, func(s impl.Shop, a, _ int) (string, bool) {
			mean, ok := impl.MeanToggled(s.Sheet, s.Stamp, a)
			return fractionBy(mean), ok
		}),
		tellingCommand("best", 0, func(s impl.Shop, _, _ int) (string, bool) {
			cell, _, ok := impl.BestCell(s.Sheet, s.Stamp)
			return numbersBy(cell), ok
		}),
		tellingCommand("common", 0, func(s impl.Shop, _, _ int) (string, bool) {
			n, ok := impl.CommonCells(s)
			return numbersBy(n), ok
		}),
	}
}

func (c command) line(a, b int) string {
	return strings.Join([]string{c.name, fmt.Sprint(a), fmt.Sprint(b)}[:1+c.numbers], " ")
}

func checkCommand(t *testing.T, c impl.Console, line string, shop impl.Shop, reply string) {
	t.Helper()
	want := impl.Console{Shop: shop, Log: c.Log}
	want.Log.Pending += encodedBy(c.Log.Count, record(line, reply))
	want.Log.Count++
	next, got := impl.ExecuteCommand(c, line)
	if got != reply || next != want || !impl.IsValidConsole(next) {
		t.Errorf("ExecuteCommand(%v, %s, %q) = %v, %s, %q, not %v, %s, %q", c.Shop, briefLog(c.Log), line, next.Shop, briefLog(next.Log), got, want.Shop, briefLog(want.Log), reply)
	}
}

// A told row of a test has a command that leaves the shop as it is.
type toldRow struct{ line, reply string }

func TestCommandsThatTell(t *testing.T) {
	for _, c := range []struct {
		shop impl.Shop
		rows []toldRow
	}{
		{counting(shopOf(sheet(3, 1), sheet(3)), 12, 1000), []toldRow{
			{"sheet", "3 1 0 0 0 0"}, {"stamp", "3 0 0 0 0 0"}, {"pressed", "12"}, {"size", "3"}, {"black 1 0", "yes"}, {"black 5 5", "no"}, {"black 0 1", "yes"}, {"black 1 1", "no"}, {"first", "0 0 0 0 1 3"}, {"forms", "144"},
			{"spread", "7 3 0 0 0 0"}, {"shrink", "1 0 0 0 0 0"}, {"opened", "no"}, {"closed", "yes"}, {"periods", "1"}, {"tile", "6 6"}, {"slants", "none"}, {"fits", "1/36"},
			{"mean 0", "3/1"}, {"mean 1", "14/3"}, {"mean 6", "1877926/177147"}, {"best", "0 0"}, {"common", "2"},
		}},
		{counting(shopOf(chessBoard, sheet(0, 2)), 1000, 3), []toldRow{
			{"sheet", "21 42 21 42 21 42"}, {"stamp", "0 2 0 0 0 0"}, {"pressed", "1000"}, {"size", "18"}, {"forms", "2"}, {"first", "21 42 21 42 21 42"}, {"periods", "18"}, {"tile", "2 2"}, {"slants", "1 3 5"}, {"fits", "1/2"},
			{"spread", "21 42 21 42 21 42"}, {"opened", "yes"}, {"closed", "yes"}, {"mean 3", "18/1"}, {"best", "0 0"}, {"common", "1"}, {"black 0 0", "yes"}, {"black 0 1", "no"},
		}},
		{impl.Shop{}, []toldRow{
			{"sheet", "0 0 0 0 0 0"}, {"stamp", "0 0 0 0 0 0"}, {"pressed", "0"}, {"size", "0"}, {"forms", "1"}, {"first", "0 0 0 0 0 0"}, {"periods", "36"}, {"tile", "1 1"}, {"slants", "0 1 2 3 4 5"}, {"fits", "1/1"}, {"mean 6", "0/1"}, {"common", "0"},
		}},
		{shopOf(full, unit), []toldRow{{"size", "36"}, {"shrink", "63 63 63 63 63 63"}, {"fits", "1/1"}, {"common", "1"}, {"mean 1", "35/1"}, {"mean 2", "613/18"}, {"mean 6", "58149793/1889568"}}},
		{shopOf(sheet(0, 0, 0, 24), sheet(3)), []toldRow{{"best", "3 3"}, {"fits", "1/36"}, {"shrink", "0 0 0 8 0 0"}, {"opened", "yes"}, {"common", "0"}, {"black 3 3", "yes"}, {"black 4 3", "yes"}, {"black 5 3", "no"}}},
		{shopOf(sheet(1), sheet(0, 3)), []toldRow{{"fits", "0/1"}, {"best", "0 5"}, {"spread", "0 3 0 0 0 0"}}},
	} {
		for _, row := range c.rows {
			checkCommand(t, consoleOf(c.shop), row.line, c.shop, row.reply)
			checkCommand(t, consoleOf(c.shop, someRecords(59)...), row.line, c.shop, row.reply)
		}
	}
}

func TestCommandsThatDoJobs(t *testing.T) {
	s := counting(shopOf(sheet(3, 1), sheet(3)), 4, 9)
	for _, c := range []struct {
		line, reply string
		s, stamp    impl.Sheet
		pressed     int
	}{
		{"toggle 0 0", "0 1 0 0 0 0", sheet(0, 1), sheet(3), 5},
		{"toggle 5 1", "3 32 0 0 0 0", sheet(3, 32), sheet(3), 5},
		{"ink 1 0", "7 1 0 0 0 0", sheet(7, 1), sheet(3), 5},
		{"wipe 0 1", "3 0 0 0 0 0", sheet(3), sheet(3), 5},
		{"shift 1 2", "0 0 6 2 0 0", sheet(0, 0, 6, 2), sheet(3), 4},
		{"turn 1", "32 32 0 0 0 0", sheet(3, 1), sheet(32, 32), 4},
		{"turn 0", "3 0 0 0 0 0", sheet(3, 1), sheet(3), 4},
		{"cut 5 4", "3 0 0 0 32 0", sheet(3, 1), sheet(3, 0, 0, 0, 32), 4},
		{"swap", "3 0 0 0 0 0", sheet(3), sheet(3, 1), 4},
	} {
		want := counting(shopOf(c.s, c.stamp), c.pressed, 10)
		checkCommand(t, consoleOf(s), c.line, want, c.reply)
		checkCommand(t, consoleOf(s, someRecords(59)...), c.line, want, c.reply)
		checkCommand(t, consoleOf(counting(s, 4, 1000)), c.line, counting(s, 4, 1000), "?")
		if c.pressed == 5 {
			checkCommand(t, consoleOf(counting(s, 1000, 9)), c.line, counting(s, 1000, 9), "?")
		}
	}
}

func TestCommandsMatchFunctions(t *testing.T) {
	numbers := [][2]int{{0, 0}, {5, 0}, {0, 5}, {2, 3}, {6, 0}, {7, 0}, {0, 6}, {8, 0}, {-1, 0}, {0, -1}, {999999, 0}, {-999999, 5}}
	for i, s := range someShops(120) {
		for _, c := range commands() {
			for _, n := range numbers[:1+c.numbers*(len(numbers)-1)/2] {
				next, reply, ok := c.call(s, n[0], n[1])
				if !ok {
					next, reply = s, "?"
				}
				checkCommand(t, consoleOf(s, someRecords(i%4)...), c.line(n[0], n[1]), next, reply)
			}
		}
	}
}

// failingLines are commands that no shop answers, or whose numbers are none.
func failingLines() []string {
	lines := []string{"sheets", "shee", "Sheet", "SHEET", "sheet.", "help", "?", "no", "toggle", "toggle A B", "turn A", "black A B", "mean A", "0", "0 0", "a", " ", "  ", "-", "1 toggle 0", "0 0 toggle", "toggle,0,0", "toggle0 0", "undo", "none", "press 0 0", "log", "sheet sheet"}
	for _, c := range commands() {
		good := c.line(1, 0)
		lines = append(lines, " "+good, good+" ", "  "+good, good+"  ", strings.ToUpper(c.name)+good[len(c.name):], c.name+"s"+good[len(c.name):], good[1:], good+" 0", good+" a", good+" 0 0")
		for i := range c.numbers {
			words := strings.Split(good, " ")
			lines = append(lines, strings.Join(slices.Delete(slices.Clone(words), i+1, i+2), " "), strings.Join(slices.Insert(words, i+1, ""), " "))
			for _, bad := range []string{"a", "00", "01", "+1", "-0", "1.0", "1,", "-", "", "0x1", "1e0", "1_0", "1000000", "-1000000", "9223372036854775808", "18446744073709551616", "A", "-1", "8", "999999"} {
				words := strings.Split(good, " ")
				words[i+1] = bad
				lines = append(lines, strings.Join(words, " "))
			}
		}
	}
	return lines
}

func TestCommandsThatFailChangeTheLogAlone(t *testing.T) {
	for _, s := range []impl.Shop{{}, shopOf(sheet(3, 1), sheet(3)), counting(shopOf(uneven, chessBoard), 1000, 1000), counting(shopOf(full, unit), 3, 17)} {
		for _, line := range failingLines() {
			checkCommand(t, consoleOf(s), line, s, "?")
		}
		checkCommand(t, consoleOf(s, someRecords(59)...), "help", s, "?")
		checkCommand(t, consoleOf(s), longest.Command, s, "?")
		checkCommand(t, impl.Console{Shop: s, Log: logOf(someRecords(7), 3)}, "sheet ", s, "?")
	}
}

func TestCommandsPressNoMoreThanCan(t *testing.T) {
	for _, c := range []struct {
		line string
		from impl.Shop
		last bool
	}{
		{"toggle 0 0", counting(impl.Shop{}, 999, 0), true}, {"ink 5 5", counting(impl.Shop{}, 999, 999), true}, {"wipe 0 0", counting(impl.Shop{}, 1000, 0), false},
		{"shift 0 0", counting(impl.Shop{}, 1000, 999), true}, {"turn 7", counting(impl.Shop{}, 0, 1000), false}, {"swap", counting(impl.Shop{}, 1000, 999), true}, {"cut 0 0", counting(impl.Shop{}, 0, 1000), false},
	} {
		next, reply := impl.ExecuteCommand(consoleOf(c.from), c.line)
		if (reply != "?") != c.last || (next.Shop != c.from) != c.last {
			t.Errorf("ExecuteCommand(%v, %q) = %v, %q", c.from, c.line, next.Shop, reply)
		}
	}
}

// badCommands are not those of valid records.
func badCommands() []string {
	bad := []string{"", longest.Command + "w", strings.Repeat("sheet ", 1000), "size@", "@", "si@ze", "#", "size#", "sheet\n", "\nsheet", "toggle 0\t0", "sheet\r", "\x00", "sheet\x1f", "sheet\x7f", "sheet\x80", "é", "sheet\xff"}
	for _, e := range badRecords() {
		if e.Reply == "" {
			bad = append(bad, e.Command)
		}
	}
	return bad
}

func TestExecuteCommandChecksInOrder(t *testing.T) {
	s := shopOf(uneven, sheet(3))
	for _, l := range goodLogs() {
		c := impl.Console{Shop: s, Log: l}
		for _, line := range badCommands() {
			if next, reply := impl.ExecuteCommand(c, line); reply != "bad" || next != c {
				t.Errorf("ExecuteCommand(%s, %.80q) = %v, %s, %q", briefLog(l), line, next.Shop, briefLog(next.Log), reply)
			}
		}
		for _, line := range []string{"sheet", "toggle 0 0", "swap", "help", " ", longest.Command} {
			next, reply := impl.ExecuteCommand(c, line)
			if isFull := l.Count == 60; (reply == "full") != isFull || (next == c) != isFull {
				t.Errorf("ExecuteCommand(%s, %q) = %v, %s, %q", briefLog(l), line, next.Shop, briefLog(next.Log), reply)
			}
		}
	}
}

// someLines are n lines that a console takes, by a fixed series of numbers; few of them fail.
func someLines(source *rand.Rand, n int) []string {
	all, failing := commands(), failingLines()
	var lines []string
	for range n {
		if source.Intn(8) == 0 {
			lines = append(lines, failing[source.Intn(len(failing))])
			continue
		}
		lines = append(lines, all[source.Intn(len(all))].line(source.Intn(6), source.Intn(6)))
	}
	return lines
}

// ranBy executes lines one by one.
func ranBy(c impl.Console, lines []string) (impl.Console, []string) {
	var replies []string
	for _, line := range lines {
		next, reply := impl.ExecuteCommand(c, line)
		c, replies = next, append(replies, reply)
	}
	return c, replies
}

func checkScript(t *testing.T, c impl.Console, text string, want []string) {
	t.Helper()
	if replies, ok := impl.RunScript(c, text); !ok || !slices.Equal(replies, want) {
		t.Errorf("RunScript(%v, %s, %.80q) = %q, %v, not %q", c.Shop, briefLog(c.Log), text, replies, ok, want)
	}
}

func TestRunScript(t *testing.T) {
	c := consoleOf(shopOf(sheet(3, 1), sheet(3)))
	for _, row := range []struct {
		text string
		want []string
	}{
		{"", []string{"bad"}}, {"\n", []string{"bad", "bad"}}, {"sheet", []string{"3 1 0 0 0 0"}}, {"sheet\n", []string{"3 1 0 0 0 0", "bad"}}, {"\nsheet", []string{"bad", "3 1 0 0 0 0"}}, {"size\n\nsize", []string{"3", "bad", "3"}},
		{"toggle 0 0\nsheet\npressed\ntoggle 0 0", []string{"0 1 0 0 0 0", "0 1 0 0 0 0", "1", "3 1 0 0 0 0"}}, {"swap\nstamp\nhelp\nturn 8\nswap", []string{"3 0 0 0 0 0", "3 1 0 0 0 0", "?", "?", "3 1 0 0 0 0"}},
		{"sheet\r\nsize", []string{"bad", "3"}}, {"si@ze\nsize", []string{"bad", "3"}}, {longest.Command + "\n" + longest.Command + "w\nsize", []string{"?", "bad", "3"}},
		{"size" + strings.Repeat("\nsize", 29), slices.Repeat([]string{"3"}, 30)}, {strings.Repeat("\n", 29), slices.Repeat([]string{"bad"}, 30)}, {strings.Repeat("a", 4000), []string{"bad"}},
		{"size\n" + strings.Repeat("a", 3990) + "\nswap", []string{"3", "bad", "3 0 0 0 0 0"}},
	} {
		checkScript(t, c, row.text, row.want)
	}
	nearlyFull := consoleOf(c.Shop, someRecords(58)...)
	checkScript(t, nearlyFull, "size\n\ncommon\nsize\n\nsi#ze\nswap", []string{"3", "bad", "2", "full", "bad", "bad", "full"})
	checkScript(t, consoleOf(c.Shop, someRecords(60)...), "size\n\nhelp", []string{"full", "bad", "full"})
}

func TestRunScriptFails(t *testing.T) {
	for _, c := range []impl.Console{{}, consoleOf(shopOf(sheet(3, 1), sheet(3)), someRecords(60)...)} {
		for _, text := range []string{"size" + strings.Repeat("\nsize", 30), strings.Repeat("\n", 30), strings.Repeat("\n", 1000), strings.Repeat("a", 4001), "size\n" + strings.Repeat("a", 3996), strings.Repeat("a", 3999) + "\n\n", strings.Repeat("a", 1<<16)} {
			if replies, ok := impl.RunScript(c, text); ok || len(replies) != 0 {
				t.Errorf("RunScript of %.60q, %d bytes = %q, %v", text, len(text), replies, ok)
			}
		}
	}
}

func TestRunScriptExecutesLines(t *testing.T) {
	source := rand.New(rand.NewSource(122))
	for i, s := range someShops(150) {
		lines := someLines(source, 1+i%30)
		c := consoleOf(s, someRecords(i%2*50)...)
		_, want := ranBy(c, lines)
		checkScript(t, c, strings.Join(lines, "\n"), want)
	}
}

func checkReplayed(t *testing.T, s impl.Shop, l impl.Log, want int) {
	t.Helper()
	if n, ok := impl.ReplayLog(s, l); !ok || n != want {
		t.Errorf("ReplayLog(%v, %s) = %d, %v, not %d", s, briefLog(l), n, ok, want)
	}
}

func TestReplayLog(t *testing.T) {
	s := shopOf(sheet(3, 1), sheet(3))
	list := []impl.LogRecord{record("size", "3"), record("toggle 0 0", "0 1 0 0 0 0"), record("help", "?"), record("size", "1"), record("turn 9", "?"), record("swap", "3 0 0 0 0 0"), record("sheet", "3 0 0 0 0 0")}
	for n := range len(list) + 1 {
		for durable := range n + 1 {
			checkReplayed(t, s, logOf(list[:n], durable), n)
		}
	}
	for k := range list {
		for _, wrong := range []string{"", "4", "bad", "full", "no", list[k].Reply + " ", list[k].Reply + "@", " " + list[k].Reply, longest.Reply} {
			other := slices.Clone(list)
			other[k].Reply = wrong
			checkReplayed(t, s, logOf(other, 2), k)
			other[len(list)-1].Reply = "5"
			checkReplayed(t, s, logOf(other, 7), k)
		}
	}
	checkReplayed(t, shopOf(sheet(3, 1, 32), sheet(3)), logOf(list, 0), 0)
	checkReplayed(t, shopOf(sheet(3, 1), sheet(3, 1)), logOf(list, 0), 1)
	checkReplayed(t, counting(s, 0, 1000), logOf(list, 0), 1)
	checkReplayed(t, counting(s, 1000, 0), logOf(list, 0), 1)
	checkReplayed(t, counting(s, 999, 998), logOf(list, 0), 7)
	checkReplayed(t, counting(s, 999, 999), logOf(list, 0), 5)
	checkReplayed(t, impl.Shop{}, impl.Log{}, 0)
}

func TestReplayLogFails(t *testing.T) {
	for i, s := range badShops() {
		if i%7 > 0 {
			continue
		}
		for _, l := range []impl.Log{{}, logOf(someRecords(2), 1), {Count: 1}} {
			if n, ok := impl.ReplayLog(s, l); ok || n != 0 {
				t.Errorf("ReplayLog(%v, %s) = %d, %v", s, briefLog(l), n, ok)
			}
		}
	}
	list := []impl.LogRecord{record("size", "0"), record("size", "0"), record("size", "0")}
	l := logOf(list, 1)
	checkReplayed(t, impl.Shop{}, l, 3)
	for _, bad := range []impl.Log{{Durable: l.Durable, Pending: l.Pending, Count: 2}, {Durable: l.Durable + "0", Pending: l.Pending, Count: 3}, {Durable: l.Durable + l.Pending[:4], Pending: l.Pending[4:], Count: 3}} {
		if n, ok := impl.ReplayLog(impl.Shop{}, bad); ok || n != 0 {
			t.Errorf("ReplayLog(%s) = %d, %v", briefLog(bad), n, ok)
		}
	}
}

func TestReplayReproducesReplies(t *testing.T) {
	source := rand.New(rand.NewSource(123))
	for i, s := range someShops(40) {
		start, _ := impl.NewConsole(s)
		c, replies := ranBy(start, someLines(source, 62-i%3))
		list, ok := impl.LogRecords(c.Log)
		if !ok || len(list) != 60 {
			t.Fatalf("LogRecords(%s) = %d records, %v", briefLog(c.Log), len(list), ok)
		}
		for k, e := range list {
			if e.Reply != replies[k] {
				t.Fatalf("the record %d is %q, not %q", k, e, replies[k])
			}
		}
		checkReplayed(t, s, c.Log, 60)
		kept, _ := impl.SyncLog(c.Log)
		checkReplayed(t, s, kept, 60)
		left, _ := impl.CrashLog(c.Log, len(c.Log.Pending)*i/48, true)
		found, _, _ := impl.RecoverLog(left)
		checkReplayed(t, s, found, found.Count)
		for _, k := range []int{0, source.Intn(60), 59} {
			other := slices.Clone(list)
			other[k].Reply += "!"
			checkReplayed(t, s, logOf(other, k), k)
		}
	}
}

func TestTogglesAndCutsUndoThemselves(t *testing.T) {
	for _, s := range someShops(200) {
		s.Pressed, s.Count = 998, 998
		for _, cell := range allCells() {
			for _, kind := range []int{impl.JobToggle, impl.JobCut} {
				twice, many, ok := impl.DoJobs(s, slices.Repeat(jobs(job(kind, cell[0], cell[1])), 2))
				if !ok || many != 2 || twice.Sheet != s.Sheet || twice.Stamp != s.Stamp {
					t.Errorf("DoJobs of two jobs %d at %v, of %v = %v, %d, %v", kind, cell, s, twice, many, ok)
				}
			}
		}
	}
}

func TestShopsModifyNoArgument(t *testing.T) {
	good, bad := possibleJobs(), badJobs()
	backing := slices.Concat(good[:5], bad[:2], good[5:9])
	before := slices.Clone(backing)
	for from := range backing {
		for to := from; to <= len(backing); to++ {
			impl.DoJobs(shopOf(uneven, sheet(3)), backing[from:to])
			impl.DoJobs(impl.Shop{Count: -1}, backing[from:to])
			if !slices.Equal(backing, before) {
				t.Fatalf("DoJobs of jobs %d..%d left %v", from, to, backing)
			}
		}
	}
}

func TestShopsSameResultsAgain(t *testing.T) {
	list := someRecords(9)
	c := consoleOf(shopOf(sheet(3, 1), sheet(3)))
	for range 3 {
		found, one := impl.LogRecords(logOf(list, 4))
		replies, two := impl.RunScript(c, "size\nswap\nsheet")
		if !one || !two || !slices.Equal(found, list) || !slices.Equal(replies, []string{"3", "3 0 0 0 0 0", "3 0 0 0 0 0"}) {
			t.Fatalf("LogRecords %q, RunScript %q", found, replies)
		}
		for i := range found[:cap(found)] {
			found[:cap(found)][i] = record("x", "y")
		}
		for i := range replies[:cap(replies)] {
			replies[:cap(replies)][i] = "x"
		}
		none, _ := impl.LogRecords(impl.Log{Count: 1})
		nothing, _ := impl.RunScript(impl.Console{Log: impl.Log{Count: 1}}, "size")
		_, _ = append(none, record("z", "z")), append(nothing, "z")
	}
	s, j := shopOf(uneven, sheet(3)), job(impl.JobTurn, 8, 0)
	for range 3 {
		if next, ok := impl.DoJob(s, j); ok || next != (impl.Shop{}) {
			t.Errorf("DoJob(%v, %v) = %v, %v", s, j, next, ok)
		}
		if next, ok := impl.DoJob(s, job(impl.JobTurn, 7, 0)); !ok || next.Count != 1 {
			t.Errorf("DoJob(%v) of a turn = %v, %v", s, next, ok)
		}
	}
}
