package tests

import (
	"bytes"
	"math"
	"slices"
	"strconv"
	"strings"
	"testing"

	"loop.example/g01220/impl"
)

func TestLimitsOfStrings(t *testing.T) {
	if impl.MaxString != 4000 || impl.MaxDecimal != 999999 {
		t.Error("limits", impl.MaxString, impl.MaxDecimal)
	}
}

func TestFormatInt(t *testing.T) {
	for _, c := range []struct {
		n    int
		want string
	}{
		{-12, "-12"}, {0, "0"}, {7, "7"}, {-1, "-1"}, {10, "10"}, {100, "100"}, {-9, "-9"},
		{123456, "123456"}, {999999, "999999"}, {-999999, "-999999"},
	} {
		if s, ok := impl.FormatInt(c.n); !ok || s != c.want {
			t.Errorf("FormatInt(%d) = %q, %v", c.n, s, ok)
		}
	}
	for _, n := range []int{1000000, -1000000, 1 << 32, math.MaxInt, math.MinInt, math.MinInt + 1} {
		if s, ok := impl.FormatInt(n); ok || s != "" {
			t.Errorf("FormatInt(%d) = %q, %v", n, s, ok)
		}
	}
}

func TestParseInt(t *testing.T) {
	for _, c := range []struct {
		s    string
		want int
	}{
		{"-12", -12}, {"0", 0}, {"7", 7}, {"-1", -1}, {"10", 10}, {"-100", -100},
		{"999999", 999999}, {"-999999", -999999},
	} {
		if n, ok := impl.ParseInt(c.s); !ok || n != c.want {
			t.Errorf("ParseInt(%q) = %d, %v", c.s, n, ok)
		}
	}
	for _, s := range []string{
		"", "-", "+", "-0", "+0", "00", "01", "-01", "007", "+1", "--1", "-+1", "1-", " 1", "1 ", "1\n",
		"1000000", "-1000000", "0999999", "x", "1x", "x1", "0x1", "1_000", "1.0", "1e3", "1\x00",
		"\xff", "\uff11", "\u2212" + "1", "4294967297", "9223372036854775807", "9223372036854775808",
		"-9223372036854775809", "18446744073709551616", "18446744073709551617",
		strings.Repeat("0", impl.MaxString+1), strings.Repeat("9", 100000),
	} {
		if n, ok := impl.ParseInt(s); ok || n != 0 {
			t.Errorf("ParseInt(%.40q) = %d, %v", s, n, ok)
		}
	}
}

func TestNumbersRoundTrip(t *testing.T) {
	for n := -impl.MaxDecimal - 20; n <= impl.MaxDecimal+20; n++ {
		s, ok := impl.FormatInt(n)
		if n < -impl.MaxDecimal || n > impl.MaxDecimal {
			if ok || s != "" {
				t.Fatalf("FormatInt(%d) = %q, %v", n, s, ok)
			}
			continue
		}
		if !ok || s != strconv.Itoa(n) {
			t.Fatalf("FormatInt(%d) = %q, %v", n, s, ok)
		}
		if m, fine := impl.ParseInt(s); !fine || m != n {
			t.Fatalf("ParseInt(%q) = %d, %v", s, m, fine)
		}
	}
}

// Each short text is a number just if formatting that number gives this text.
func TestParseIntTakesNothingElse(t *testing.T) {
	written := map[string]int{}
	for n := -99; n <= 999; n++ {
		written[strconv.Itoa(n)] = n
	}
	for _, s := range textsOver("-+0129 _x.", 3) {
		want, is := written[s]
		if n, ok := impl.ParseInt(s); ok != is || n != want {
			t.Errorf("ParseInt(%q) = %d, %v", s, n, ok)
		}
	}
	for b := range 256 {
		for _, s := range []string{string([]byte{byte(b)}), string([]byte{'1', byte(b)}), string([]byte{byte(b), '1'})} {
			want, is := written[s]
			if n, ok := impl.ParseInt(s); ok != is || n != want {
				t.Errorf("ParseInt(%q) = %d, %v", s, n, ok)
			}
		}
	}
}

// textsOver gives all texts of at most n bytes of an alphabet, the empty one too.
func textsOver(alphabet string, n int) []string {
	all, last := []string{""}, []string{""}
	for range n {
		var next []string
		for _, s := range last {
			for i := range len(alphabet) {
				next = append(next, s+alphabet[i:i+1])
			}
		}
		all, last = append(all, next...), next
	}
	return all
}

func TestSplitString(t *testing.T) {
	for _, c := range []struct {
		s, sep string
		want   []string
	}{
		{"a,,b", ",", []string{"a", "", "b"}},
		{"", ",", []string{""}},
		{"abc", ",", []string{"abc"}},
		{",", ",", []string{"", ""}},
		{",a", ",", []string{"", "a"}},
		{"a,", ",", []string{"a", ""}},
		{",,", ",", []string{"", "", ""}},
		{"one two  three", " ", []string{"one", "two", "", "three"}},
		{"a,b;c", ";", []string{"a,b", "c"}},
		{"a\x00b", "\x00", []string{"a", "b"}},
		{"a\xffb\xff", "\xff", []string{"a", "b", ""}},
		{"a\nb\n", "\n", []string{"a", "b", ""}},
		{"\xc3\xa9x", "\xa9", []string{"\xc3", "x"}},
		{"aAa", "a", []string{"", "A", ""}},
	} {
		if l, ok := impl.SplitString(c.s, c.sep); !ok || !slices.Equal(l, c.want) {
			t.Errorf("SplitString(%q, %q) = %q, %v", c.s, c.sep, l, ok)
		}
	}
	for _, c := range [][2]string{
		{"", ""}, {"abc", ""}, {"a,,b", ",,"}, {"a,b", ", "}, {"", "ab"}, {"a\xc3\xa9b", "\xc3\xa9"},
		{"ab", "\xe2\x82\xac"}, {strings.Repeat(",", impl.MaxString+1), ","},
		{strings.Repeat("a", impl.MaxString+1), ","}, {strings.Repeat("a", 100000), ","},
	} {
		if l, ok := impl.SplitString(c[0], c[1]); ok || len(l) != 0 {
			t.Errorf("SplitString(%.40q, %q) = %d elements, %v", c[0], c[1], len(l), ok)
		}
	}
}

func TestSplitStringAtMostMaxString(t *testing.T) {
	long := strings.Repeat("a", impl.MaxString)
	if l, ok := impl.SplitString(long, ","); !ok || len(l) != 1 || l[0] != long {
		t.Error("a long part", len(l), ok)
	}
	l, ok := impl.SplitString(strings.Repeat(",", impl.MaxString), ",")
	if !ok || len(l) != impl.MaxString+1 {
		t.Fatal("separators alone", len(l), ok)
	}
	for _, part := range l {
		if part != "" {
			t.Fatalf("part %q", part)
		}
	}
	if l, ok := impl.SplitString(long, ""); ok || len(l) != 0 {
		t.Error("no separator", len(l), ok)
	}
}

func TestJoinStrings(t *testing.T) {
	for _, c := range []struct {
		parts     []string
		sep, want string
	}{
		{[]string{"a", "", "b"}, ";", "a;;b"},
		{[]string{""}, ",", ""},
		{[]string{"abc"}, ",", "abc"},
		{[]string{"", ""}, ",", ","},
		{[]string{"", "a", ""}, " ", " a "},
		{[]string{"a;b", "c"}, ",", "a;b,c"},
		{[]string{"a", "b"}, "\x00", "a\x00b"},
		{[]string{"\xc3", "\xa9"}, "\xff", "\xc3\xff\xa9"},
		{[]string{"one", "two", "three"}, "\n", "one\ntwo\nthree"},
	} {
		if s, ok := impl.JoinStrings(c.parts, c.sep); !ok || s != c.want {
			t.Errorf("JoinStrings(%q, %q) = %q, %v", c.parts, c.sep, s, ok)
		}
	}
	for _, c := range []struct {
		parts []string
		sep   string
	}{
		{nil, ","}, {[]string{}, ","}, {nil, ""}, {[]string{"a", "b"}, ""}, {[]string{"a"}, ""},
		{[]string{"a", "b"}, ",,"}, {[]string{"a"}, ", "}, {[]string{""}, "\xc3\xa9"},
		{[]string{","}, ","}, {[]string{"a;b"}, ";"}, {[]string{";a", "b"}, ";"}, {[]string{"a;", "b"}, ";"},
		{[]string{"a", "b;c", "d"}, ";"}, {[]string{"a", "b", "c;"}, ";"}, {[]string{"a", "", ";"}, ";"},
		{[]string{"\xc3\xa9"}, "\xa9"}, {[]string{"a\x00"}, "\x00"},
	} {
		if s, ok := impl.JoinStrings(c.parts, c.sep); ok || s != "" {
			t.Errorf("JoinStrings(%q, %q) = %q, %v", c.parts, c.sep, s, ok)
		}
	}
}

func TestJoinStringsAtMostMaxString(t *testing.T) {
	run := func(n int) string { return strings.Repeat("a", n) }
	for _, c := range []struct {
		name  string
		parts []string
		ok    bool
	}{
		{"one part", []string{run(impl.MaxString)}, true},
		{"one part too long", []string{run(impl.MaxString + 1)}, false},
		{"two parts", []string{run(2000), run(1999)}, true},
		{"two parts, too long together", []string{run(2000), run(2000)}, false},
		{"last part empty", []string{run(impl.MaxString - 1), ""}, true},
		{"last separator too much", []string{run(impl.MaxString), ""}, false},
		{"first separator too much", []string{"", run(impl.MaxString)}, false},
		{"three parts", []string{run(1000), run(1000), run(1998)}, true},
		{"three parts, too long together", []string{run(1000), run(1000), run(1999)}, false},
		{"empty parts", make([]string, impl.MaxString+1), true},
		{"too many empty parts", make([]string, impl.MaxString+2), false},
		{"far too many parts", make([]string, 1000000), false},
		{"far too long parts", []string{run(1000000), run(1000000)}, false},
	} {
		s, ok := impl.JoinStrings(c.parts, ",")
		want := ""
		if c.ok {
			want = strings.Join(c.parts, ",")
		}
		if ok != c.ok || s != want {
			t.Errorf("%s: %d bytes, %v", c.name, len(s), ok)
		}
	}
}

func TestSplitAndJoinRoundTrip(t *testing.T) {
	texts := append(textsOver("a,;", 6), strings.Repeat("a,", impl.MaxString/2), strings.Repeat(";", impl.MaxString))
	for _, s := range texts {
		for _, sep := range []string{",", ";", "a", "\x00", "\xff"} {
			parts, ok := impl.SplitString(s, sep)
			if !ok || len(parts) != strings.Count(s, sep)+1 {
				t.Fatalf("SplitString(%.40q, %q) = %d elements, %v", s, sep, len(parts), ok)
			}
			if joined, ok := impl.JoinStrings(parts, sep); !ok || joined != s {
				t.Fatalf("JoinStrings(%.40q, %q) = %.40q, %v", parts, sep, joined, ok)
			}
		}
	}
	words := textsOver("a;", 2)
	for _, a := range words {
		for _, b := range words {
			for _, c := range words {
				list := []string{a, b, c}
				s, ok := impl.JoinStrings(list, ",")
				if !ok {
					t.Fatalf("JoinStrings(%q) fails", list)
				}
				if parts, ok := impl.SplitString(s, ","); !ok || !slices.Equal(parts, list) {
					t.Fatalf("SplitString(%q) = %q, %v", s, parts, ok)
				}
			}
		}
	}
}

func TestLessString(t *testing.T) {
	for _, c := range []struct {
		a, b string
		want bool
	}{
		{"a", "ab", true}, {"ab", "a", false}, {"", "", false}, {"", "a", true}, {"a", "", false},
		{"", "\x00", true}, {"a", "a\x00", true}, {"b", "ab", false}, {"ab", "b", true}, {"a", "a", false},
		{"Z", "a", true}, {"10", "9", true}, {"\x7f", "\x80", true}, {"\x80", "\x7f", false}, {"z", "\xff", true},
	} {
		if impl.LessString(c.a, c.b) != c.want {
			t.Errorf("LessString(%q, %q) is not %v", c.a, c.b, c.want)
		}
	}
	texts := textsOver("\x00aA\x7f\x80\xff", 3)
	for _, a := range texts {
		for _, b := range texts {
			if impl.LessString(a, b) != (bytes.Compare([]byte(a), []byte(b)) < 0) {
				t.Fatalf("LessString(%q, %q)", a, b)
			}
		}
	}
	long := strings.Repeat("a", impl.MaxString+1)
	if !impl.LessString(long, long+"a") || impl.LessString(long, long) || !impl.LessString(long, long[1:]+"b") {
		t.Error("texts of more than MaxString bytes")
	}
}

func TestChecksum(t *testing.T) {
	every := make([]byte, 256)
	for i := range every {
		every[i] = byte(i)
	}
	for _, c := range []struct {
		s    string
		want int
	}{
		{"", 7}, {"a", 385}, {"aa", 15883}, {"aaa", 651301}, {"aaaa", 703985}, {"\x00", 288}, {"\xff", 543},
		{"\xc3\xa9", 19973}, {"stamps and stencils", 575803}, {string(every), 750103},
		{strings.Repeat("a", impl.MaxString), 237246}, {strings.Repeat("\xff", impl.MaxString), 55992},
	} {
		if n, ok := impl.Checksum(c.s); !ok || n != c.want {
			t.Errorf("Checksum(%.40q) = %d, %v", c.s, n, ok)
		}
	}
	for _, n := range []int{impl.MaxString + 1, 2 * impl.MaxString, 1000000} {
		if sum, ok := impl.Checksum(strings.Repeat("a", n)); ok || sum != 0 {
			t.Errorf("Checksum of %d bytes = %d, %v", n, sum, ok)
		}
	}
}

// sealed is what AppendChecksum has to return, apart from its limits.
func sealed(s string) string {
	h := 7
	for _, c := range []byte(s) {
		h = (41*h + int(c) + 1) % 999979
	}
	return s + "#" + strconv.Itoa(h)
}

func TestAppendChecksum(t *testing.T) {
	for _, c := range [][2]string{
		{"a", "a#385"}, {"", "#7"}, {"aa", "aa#15883"}, {"aaaa", "aaaa#703985"}, {"\x00", "\x00#288"},
		{"\xff", "\xff#543"}, {"stamps and stencils", "stamps and stencils#575803"},
	} {
		if s, ok := impl.AppendChecksum(c[0]); !ok || s != c[1] {
			t.Errorf("AppendChecksum(%q) = %q, %v", c[0], s, ok)
		}
	}
	for _, s := range []string{
		"#", "a#", "#a", "a#b", "a#385", "##", strings.Repeat("a", impl.MaxString),
		strings.Repeat("a", impl.MaxString+1), strings.Repeat("a", 1000000), strings.Repeat("#", impl.MaxString+1),
	} {
		if x, ok := impl.AppendChecksum(s); ok || x != "" {
			t.Errorf("AppendChecksum(%.40q) = %.40q, %v", s, x, ok)
		}
	}
}

// What is sealed has at most MaxString bytes; the checksum is the shorter the less it is.
func TestSealedTextsAtMostMaxString(t *testing.T) {
	just, more := map[int]bool{}, map[int]bool{}
	for length := impl.MaxString - 8; length <= impl.MaxString+1; length++ {
		for tail := range 1500 {
			last := strconv.Itoa(100000 + tail*7919%900000)
			s := strings.Repeat("a", length-len(last)) + last
			want := sealed(s)
			fits := len(want) <= impl.MaxString
			if got, ok := impl.AppendChecksum(s); ok != fits || ok && got != want || !ok && got != "" {
				t.Fatalf("AppendChecksum of %d bytes gives %d, %v", length, len(got), ok)
			}
			if got, ok := impl.VerifyChecksum(want); ok != fits || ok && got != s || !ok && got != "" {
				t.Fatalf("VerifyChecksum of %d bytes gives %d, %v", len(want), len(got), ok)
			}
			digits := len(want) - length - 1
			just[digits] = just[digits] || len(want) == impl.MaxString
			more[digits] = more[digits] || len(want) == impl.MaxString+1
		}
	}
	for digits := 4; digits <= 6; digits++ {
		if !just[digits] || !more[digits] {
			t.Error("no such text with a checksum of digits:", digits)
		}
	}
}

func TestVerifyChecksum(t *testing.T) {
	for _, c := range [][2]string{
		{"a#385", "a"}, {"#7", ""}, {"aa#15883", "aa"}, {"\x00#288", "\x00"}, {"\xff#543", "\xff"},
		{"stamps and stencils#575803", "stamps and stencils"},
	} {
		if s, ok := impl.VerifyChecksum(c[0]); !ok || s != c[1] {
			t.Errorf("VerifyChecksum(%q) = %q, %v", c[0], s, ok)
		}
	}
	for _, s := range []string{
		"", "a", "385", "#", "a#", "#385", "#07", "#8", "#-7", "a#384", "a#0385", "a#+385", "a#-385", "a# 385",
		"a#385 ", "a#385\n", " a#385", "a#38", "a#3850", "b#385", "A#385", "aa#385", "a#385#", "a##385",
		"a#385#1", "a#385#385", "##7", sealed("a#385"), sealed("#"), "a#999979", "a#1000364", "a#0x181",
		sealed(strings.Repeat("a", impl.MaxString)), sealed(strings.Repeat("a", impl.MaxString+1)),
		strings.Repeat("a", 1000000), strings.Repeat("#", 1000000),
	} {
		if x, ok := impl.VerifyChecksum(s); ok || x != "" {
			t.Errorf("VerifyChecksum(%.40q) = %.40q, %v", s, x, ok)
		}
	}
}

func TestSealedTextsAreVerified(t *testing.T) {
	for _, s := range append(textsOver("a0 \x00\xff", 5), textsOver("\xe2\x82\xac", 4)...) {
		x, ok := impl.AppendChecksum(s)
		if !ok || x != sealed(s) {
			t.Fatalf("AppendChecksum(%q) = %q, %v", s, x, ok)
		}
		if y, ok := impl.VerifyChecksum(x); !ok || y != s {
			t.Fatalf("VerifyChecksum(%q) = %q, %v", x, y, ok)
		}
	}
}

func TestChangedByteIsDetected(t *testing.T) {
	every := make([]byte, 0, 255)
	for c := range 256 {
		if c != '#' {
			every = append(every, byte(c))
		}
	}
	texts := append(textsOver("a0\xff", 2), "stamps and stencils", "-12", "385", string(every))
	for _, s := range texts {
		x, ok := impl.AppendChecksum(s)
		if !ok {
			t.Fatalf("AppendChecksum(%q) fails", s)
		}
		for i := range len(x) {
			for c := range 256 {
				checkChanged(t, x, i, byte(c))
			}
		}
	}
	long, ok := impl.AppendChecksum(strings.Repeat("ab", 1996))
	if !ok {
		t.Fatal("AppendChecksum of a long text fails")
	}
	for i := range len(long) {
		for _, c := range []byte{'#', '0', '9', long[i] + 1, long[i] ^ 0x80, ^long[i]} {
			checkChanged(t, long, i, c)
		}
	}
}

func checkChanged(t *testing.T, sealed string, i int, c byte) {
	t.Helper()
	if sealed[i] == c {
		return
	}
	changed := sealed[:i] + string([]byte{c}) + sealed[i+1:]
	if y, ok := impl.VerifyChecksum(changed); ok || y != "" {
		t.Fatalf("VerifyChecksum takes %.40q with byte %d changed to %d", sealed, i, c)
	}
}

func TestStringsModifyNoArgument(t *testing.T) {
	backing := []string{"a", "", "b", "kept", "too"}
	before := slices.Clone(backing)
	for _, sep := range []string{",", "a", "", ",,"} {
		impl.JoinStrings(backing[:3], sep)
		impl.JoinStrings(backing[:0], sep)
		if !slices.Equal(backing, before) {
			t.Fatalf("JoinStrings with %q left %q", sep, backing)
		}
	}
}

func TestStringsSameResultsAgain(t *testing.T) {
	first, _ := impl.SplitString("a,,b", ",")
	for i := range first {
		first[i] = "changed"
	}
	again, ok := impl.SplitString("a,,b", ",")
	if !ok || !slices.Equal(again, []string{"a", "", "b"}) {
		t.Errorf("second SplitString gives %q, %v", again, ok)
	}
	parts := []string{"a", "b"}
	joined, _ := impl.JoinStrings(parts, ",")
	parts[0] = "changed"
	if joined != "a,b" {
		t.Errorf("joined text has become %q", joined)
	}
	for range 2 {
		if s, ok := impl.AppendChecksum("a"); !ok || s != "a#385" {
			t.Errorf("AppendChecksum(%q) = %q, %v", "a", s, ok)
		}
	}
}
