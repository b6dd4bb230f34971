package route_test

import (
	"math"
	"regexp"
	"slices"
	"strings"
	"testing"
	"unicode/utf8"
	"unsafe"

	"padlock/api"
	"padlock/route"
)

const (
	mostBytes = 64 // bytes of a path
	mostParts = 6  // parts of a path
	mostRunes = 12 // characters of a part
)

// allowed are the allowed characters of ASCII.
const allowed = "-.0123456789ABCDEFGHIJKLMNOPQRSTUVWXYZ_abcdefghijklmnopqrstuvwxyz"

// wrong are texts none of whose bytes belongs to a character.
var wrong = []string{
	"\x80", "\xbf", "\xc0", "\xc1", "\xc3", "\xdf", "\xe6", "\xed", "\xef", "\xf0", "\xf4", "\xf5", "\xfe", "\xff",
	"\xe6\xbc", "\xf0\x9f", "\xf0\x9f\x98", // the last byte lacks
	"\xc0\x80", "\xc0\xaf", "\xc1\xa1", "\xc1\xbf", // two bytes where one is enough
	"\xe0\x80\xaf", "\xe0\x81\xa1", "\xe0\x83\x80", "\xe0\x9f\xbf", // three bytes where fewer are
	"\xf0\x80\x81\xa1", "\xf0\x80\x83\x80", "\xf0\x86\xbc\xa2", "\xf0\x8f\xbf\xbf", // four bytes where fewer are
	"\xed\xa0\x80", "\xed\xaf\xbf", "\xed\xb0\x80", "\xed\xbf\xbf", // halves of pairs
	"\xf4\x90\x80\x80", "\xf7\xbf\xbf\xbf", // beyond the last character
	"\xf8\x88\x80\x80\x80", "\xfc\x84\x80\x80\x80\x80",
}

// outside are characters that aren't allowed, among them those beside the
// allowed ones.
var outside = []string{
	"\x00", "\t", "\n", " ", "!", ",", "/", ":", "@", "[", "^", "`", "{", "\x7f", "\u0080", "\u00a0", "\u00bf",
	"\ue000", "\uf8ff", "\ufeff", "\ufffd", "\uffff", "\U00010000", "😀", "\U0010ffff",
}

// inside are allowed characters, of one, two and three bytes.
var inside = []string{
	"a", "z", "A", "Z", "0", "9", "-", ".", "_", "\u00c0", "\u00d7", "\u07ff", "\u0800", "\u2028", "漢", "\ud7ff",
}

// noise returns a function that returns numbers of no pattern, the same in every run.
func noise(seed uint64) func() uint64 {
	return func() uint64 {
		seed ^= seed << 13
		seed ^= seed >> 7
		seed ^= seed << 17
		return seed
	}
}

// isAllowed is the chapter's definition.
func isAllowed(c rune) bool {
	return c >= 0 && c < 0x80 && strings.IndexByte(allowed, byte(c)) >= 0 || c > 0xbf && c < 0xd800
}

// P4.1: Rune of the characters at the ends of each range, and of those beside them.
func TestRuneAtEnds(t *testing.T) {
	cases := []struct {
		c    rune
		want bool
	}{
		{'a', true}, {'z', true}, {'`', false}, {'{', false},
		{'A', true}, {'Z', true}, {'@', false}, {'[', false},
		{'0', true}, {'9', true}, {'/', false}, {':', false},
		{'-', true}, {'.', true}, {',', false},
		{'_', true}, {'^', false},
		{0xc0, true}, {0xd7ff, true}, {0xbf, false}, {0xd800, false},
		{0xd7, true}, {0xf7, true}, {'m', true}, {'M', true}, {'5', true}, {'漢', true},
		{0, false}, {' ', false}, {0x7f, false}, {0x80, false}, {0xa0, false},
		{0xdfff, false}, {0xe000, false}, {0xfffd, false}, {0xffff, false}, {0x10000, false},
		{0x10ffff, false}, {0x110000, false}, {math.MaxInt32, false}, {-1, false}, {math.MinInt32, false},
		{'a' - 1<<31, false}, {'a' + 256, true}, {'a' + 1<<16, false}, {'a' + 1<<24, false}, {-'a', false},
	}
	for _, c := range cases {
		if got := route.Rune(c.c); got != c.want {
			t.Errorf("Rune(%#x) = %t", c.c, got)
		}
	}
}

// P4.1: Rune of every character, and of numbers that are none.
func TestRuneOfEach(t *testing.T) {
	count := 0
	for c := rune(-1000); c < 0x120000; c++ {
		got := route.Rune(c)
		if got != isAllowed(c) {
			t.Fatalf("Rune(%#x) = %t", c, got)
		}
		if got {
			count++
		}
	}
	if want := 65 + 0xd7ff - 0xc0 + 1; count != want {
		t.Errorf("%d characters are allowed, not %d", count, want)
	}
}

// P4.1: Part.
func TestPart(t *testing.T) {
	cases := []struct {
		s    string
		want api.Errno
	}{
		{"a", api.OK}, {"Z", api.OK}, {"0", api.OK}, {"_", api.OK}, {"À", api.OK}, {"\ud7ff", api.OK},
		{"team", api.OK}, {"äpfel", api.OK}, {"a.b-c_d", api.OK},
		{"", api.ErrForm}, {".", api.ErrForm}, {"..", api.ErrForm}, {"-", api.ErrForm},
		{"...", api.OK}, {"....", api.OK}, {"--", api.OK}, {".-", api.OK}, {"-.", api.OK}, {"__", api.OK},
		{"..a", api.OK}, {"a..", api.OK}, {".a", api.OK}, {"-a", api.OK}, {"a-", api.OK}, {"-1", api.OK},
		{"/", api.ErrForm}, {"a/b", api.ErrForm}, {"a/", api.ErrForm}, {"/a", api.ErrForm}, {"a b", api.ErrForm},
		{"a\x00", api.ErrForm}, {"a\n", api.ErrForm}, {"\ufeffa", api.ErrForm}, {"a\u0301", api.OK},
	}
	for _, c := range cases {
		if got := route.Part(c.s); got != c.want {
			t.Errorf("Part(%q) = %d, not %d", c.s, got, c.want)
		}
	}
}

// P4.1: Part of MaxPart characters and of one more, of one byte and of more.
func TestPartIsLong(t *testing.T) {
	for _, c := range append(slices.Clone(inside), "aé漢", ".-_") {
		s := strings.Repeat(c, 13)
		runes := []rune(s)
		if got := route.Part(string(runes[:mostRunes])); got != api.OK {
			t.Errorf("Part of %d times %q = %d", mostRunes, c, got)
		}
		if got := route.Part(string(runes[:mostRunes+1])); got != api.ErrLong {
			t.Errorf("Part of %d times %q = %d", mostRunes+1, c, got)
		}
		if got := route.Part(strings.Repeat(c, 1000)); got != api.ErrLong {
			t.Errorf("Part of many times %q = %d", c, got)
		}
	}
}

// P4.1: Part with what belongs to no allowed character, at each place, also
// where the part is too long besides.
func TestPartIsOfAnotherForm(t *testing.T) {
	for _, bad := range slices.Concat(wrong, outside) {
		for _, n := range []int{0, 1, 5, 11, 12, 13, 14, 40} {
			for at := range n + 1 {
				s := strings.Repeat("a", at) + bad + strings.Repeat("ä", n-at)
				if got := route.Part(s); got != api.ErrForm {
					t.Errorf("Part(%q) = %d", s, got)
				}
			}
		}
	}
}

// P4.1: Part of each byte between others, and of each character alone.
func TestPartOfEach(t *testing.T) {
	for b := range 256 {
		want := api.ErrForm
		if strings.IndexByte(allowed, byte(b)) >= 0 {
			want = api.OK
		}
		if got := route.Part("a" + string([]byte{byte(b)}) + "a"); got != want {
			t.Errorf("Part with byte %#x = %d, not %d", b, got, want)
		}
	}
	for c := rune(0); c <= utf8.MaxRune; c++ {
		want := api.ErrForm
		if isAllowed(c) && c != '.' && c != '-' {
			want = api.OK
		}
		if got := route.Part(string(c)); got != want && utf8.ValidRune(c) {
			t.Errorf("Part of %#x = %d, not %d", c, got, want)
		}
	}
}

// full is a path of as many bytes as one may have.
const full = "123456789012/123456789012/123456789012/123456789012/123456789012"

// paths are texts that are paths, and what Check returns for others.
var paths = []struct {
	s    string
	want api.Errno
}{
	{"a", api.OK}, {"a/x", api.OK}, {"team/äpfel", api.OK}, {"a/b.c/-_", api.OK}, {"...", api.OK}, {"a/...", api.OK}, {"--/--", api.OK},
	{"a/b/c/d/e/f", api.OK}, {"äß/漢/\u00c0/\ud7ff", api.OK}, {"123456789012/b", api.OK}, {"b/123456789012", api.OK},
	{full, api.OK},
	{"漢漢漢漢漢漢漢漢漢漢漢漢/漢漢漢漢漢漢漢漢漢", api.OK}, // 64 bytes
	{"1234567890/1234567890/1234567890/1234567890/123456789/1234567890", api.OK},
	// A piece is of another form.
	{"", api.ErrForm}, {"/", api.ErrForm}, {"//", api.ErrForm}, {"a//b", api.ErrForm}, {"a/", api.ErrForm}, {"/a", api.ErrForm},
	{"a/b//", api.ErrForm}, {"//a", api.ErrForm}, {".", api.ErrForm}, {"..", api.ErrForm}, {"-", api.ErrForm},
	{"a/.", api.ErrForm}, {"a/..", api.ErrForm}, {"a/-", api.ErrForm}, {"./a", api.ErrForm}, {"../a", api.ErrForm}, {"-/a", api.ErrForm},
	{"a/../b", api.ErrForm}, {"a/./b", api.ErrForm}, {"a/-/b", api.ErrForm}, {"a b", api.ErrForm}, {" a", api.ErrForm}, {"a ", api.ErrForm},
	{"a\\b", api.ErrForm}, {"a/\xff", api.ErrForm}, {"a/😀/b", api.ErrForm}, {"\x00", api.ErrForm}, {"a\xc0\xafb", api.ErrForm}, {"a∕b", api.OK},
	// A part is too long.
	{"1234567890123", api.ErrLong}, {"a/1234567890123", api.ErrLong}, {"1234567890123/a", api.ErrLong}, {"a/1234567890123/b", api.ErrLong},
	{"漢漢漢漢漢漢漢漢漢漢漢漢漢", api.ErrLong}, {"a/ääääääääääääß", api.ErrLong}, {strings.Repeat("a", 64), api.ErrLong},
	// There are too many parts.
	{"a/b/c/d/e/f/g", api.ErrMany}, {"a/b/c/d/e/f/g/h", api.ErrMany}, {"123456789012/b/c/d/e/f/123456789012", api.ErrMany},
	{strings.Repeat("a/", 31) + "a", api.ErrMany}, {strings.Repeat("a/", 31) + "ab", api.ErrMany},
	// There are too many bytes, whatever else holds.
	{full + "3", api.ErrLong}, {full + "/", api.ErrLong}, {full + " ", api.ErrLong}, {full + "\xff", api.ErrLong}, {"/" + full, api.ErrLong},
	{"漢漢漢漢漢漢漢漢漢漢漢漢/漢漢漢漢漢漢漢漢漢1", api.ErrLong}, {"1234567890/1234567890/1234567890/1234567890/1234567890/1234567890", api.ErrLong},
	{strings.Repeat("a/", 32) + "a", api.ErrLong}, {strings.Repeat("/", 65), api.ErrLong}, {strings.Repeat(" ", 65), api.ErrLong},
	{strings.Repeat("\x80", 65), api.ErrLong}, {strings.Repeat("a", 65), api.ErrLong}, {strings.Repeat("漢", 22), api.ErrLong}, {strings.Repeat("../", 1000), api.ErrLong},
	// One byte less, and another error.
	{strings.Repeat("/", 64), api.ErrForm}, {strings.Repeat(" ", 64), api.ErrForm}, {strings.Repeat("\x80", 64), api.ErrForm},
	{full[1:] + "/", api.ErrForm}, {full[1:] + " ", api.ErrForm}, {full[1:] + "3", api.ErrLong}, {strings.Repeat("a/", 32), api.ErrForm},
	// Two errors of the pieces.
	{"1234567890123/ ", api.ErrForm}, {" /1234567890123", api.ErrForm}, {"1234567890123/", api.ErrForm}, {"/1234567890123", api.ErrForm},
	{"1234567890123/..", api.ErrForm}, {"1234567890123/a/1234567890123/-", api.ErrForm}, {"123456789012 3/a", api.ErrForm}, {"1234567890123\xff", api.ErrForm},
	{"a/b/c/d/e/f/", api.ErrForm}, {"a/b/c/d/e/f/..", api.ErrForm}, {"-/b/c/d/e/f/g", api.ErrForm}, {"a/b/c//e/f/g", api.ErrForm}, {"a/b/c/d/e/f/g/ ", api.ErrForm},
	{"a/b/c/d/e/f/1234567890123", api.ErrLong}, {"1234567890123/b/c/d/e/f/g", api.ErrLong}, {"a/b/c/1234567890123/e/f/g", api.ErrLong},
	{"1234567890123/b/c/d/e/f/-", api.ErrForm}, {" /b/c/d/e/f/1234567890123", api.ErrForm},
}

// P4.2: Check.
func TestCheck(t *testing.T) {
	if len(full) != mostBytes {
		t.Fatalf("full has %d bytes", len(full))
	}
	for _, c := range paths {
		if got := route.Check(c.s); got != c.want {
			t.Errorf("Check(%q) = %d, not %d", c.s, got, c.want)
		}
	}
}

// P4.2: Check with what belongs to no allowed character, in each piece.
func TestCheckOfAnotherForm(t *testing.T) {
	for _, bad := range slices.Concat(wrong, outside) {
		for _, s := range []string{bad, "a" + bad, bad + "a", "a/" + bad, bad + "/a", "a/b" + bad + "/c", "1234567890123/a" + bad, "a" + bad + "/1234567890123", "a/b/c/d/e/f/g" + bad} {
			if got := route.Check(s); got != api.ErrForm {
				t.Errorf("Check(%q) = %d", s, got)
			}
		}
	}
}

var (
	ofForm     = regexp.MustCompile(`^[-._0-9A-Za-z\x{c0}-\x{d7ff}]+(/[-._0-9A-Za-z\x{c0}-\x{d7ff}]+)*$`)
	reserved   = regexp.MustCompile(`(^|/)(\.|\.\.|-)(/|$)`)
	longPart   = regexp.MustCompile(`[^/]{13}`)
	sixSlashes = regexp.MustCompile(`(.*/){6}`)
)

// checked is Check by patterns.
func checked(s string) api.Errno {
	switch {
	case len(s) > mostBytes:
		return api.ErrLong
	case !ofForm.MatchString(s) || reserved.MatchString(s):
		return api.ErrForm
	case longPart.MatchString(s):
		return api.ErrLong
	case sixSlashes.MatchString(s):
		return api.ErrMany
	}
	return api.OK
}

// P4.2: Check of every short text of some pieces.
func TestCheckOfEachShortText(t *testing.T) {
	pieces := []string{"/", ".", "-", "a", "ä", "\xc3", "123456789012"}
	texts := []string{""}
	for range 6 {
		var longer []string
		for _, s := range texts {
			for _, piece := range pieces {
				longer = append(longer, s+piece)
			}
		}
		for _, s := range longer {
			if got, want := route.Check(s), checked(s); got != want {
				t.Fatalf("Check(%q) = %d, not %d", s, got, want)
			}
		}
		texts = longer
	}
}

// some returns a text of n pieces of no pattern, most of them allowed, with slashes.
func some(n int, next func() uint64) string {
	var b strings.Builder
	for range n {
		switch x := next(); x >> 8 % 200 {
		case 0:
			b.WriteString(wrong[x>>20%uint64(len(wrong))])
		case 1:
			b.WriteString(outside[x>>20%uint64(len(outside))])
		default:
			if x>>40%6 == 0 {
				b.WriteByte('/')
			}
			b.WriteString(inside[x>>20%uint64(len(inside))])
		}
	}
	return b.String()
}

// P4.2: Check of many texts of no pattern.
func TestCheckOfMany(t *testing.T) {
	next := noise(41)
	seen := map[api.Errno]int{}
	for range 20000 {
		s := some(1+int(next()%40), next)
		got, want := route.Check(s), checked(s)
		if got != want {
			t.Fatalf("Check(%q) = %d, not %d", s, got, want)
		}
		seen[got]++
	}
	for _, e := range []api.Errno{api.OK, api.ErrForm, api.ErrLong, api.ErrMany} {
		if seen[e] < 100 {
			t.Errorf("only %d texts gave %d", seen[e], e)
		}
	}
}

// P4.3: Parts.
func TestParts(t *testing.T) {
	cases := []struct {
		s    string
		want []string
	}{
		{"a", []string{"a"}},
		{"team/äpfel", []string{"team", "äpfel"}},
		{"a/b/c/d/e/f", []string{"a", "b", "c", "d", "e", "f"}},
		{"a/a/a", []string{"a", "a", "a"}},
		{"b/a", []string{"b", "a"}},
		{"...", []string{"..."}},
		{"a.b/--/_", []string{"a.b", "--", "_"}},
		{full, []string{"123456789012", "123456789012", "123456789012", "123456789012", "123456789012"}},
		{"a∕b/漢", []string{"a∕b", "漢"}},
	}
	for _, c := range cases {
		if got, bad := route.Parts(c.s); bad != api.OK || !slices.Equal(got, c.want) {
			t.Errorf("Parts(%q) = %q, %d, not %q", c.s, got, bad, c.want)
		}
	}
}

// P4.3: Parts returns the error of Check, and nothing beside it.
func TestPartsOfNoPath(t *testing.T) {
	for _, c := range paths {
		got, bad := route.Parts(c.s)
		if bad != c.want {
			t.Errorf("Parts(%q): %d, not %d", c.s, bad, c.want)
		}
		if bad != api.OK && len(got) != 0 {
			t.Errorf("Parts(%q) = %q beside error %d", c.s, got, bad)
		}
	}
}

// P4.3: Join.
func TestJoin(t *testing.T) {
	cases := []struct {
		parts []string
		want  string
		bad   api.Errno
	}{
		{[]string{"a"}, "a", api.OK},
		{[]string{"team", "äpfel"}, "team/äpfel", api.OK},
		{[]string{"b", "a", "b"}, "b/a/b", api.OK},
		{[]string{"a", "b", "c", "d", "e", "f"}, "a/b/c/d/e/f", api.OK},
		{[]string{"123456789012", "123456789012", "123456789012", "123456789012", "123456789012"}, full, api.OK},
		{[]string{"...", "--", "_"}, ".../--/_", api.OK},
		// There is no part, or one has a slash, whatever else holds.
		{nil, "", api.ErrForm},
		{[]string{}, "", api.ErrForm},
		{[]string{"a/b"}, "", api.ErrForm},
		{[]string{"/"}, "", api.ErrForm},
		{[]string{"a", "b/c"}, "", api.ErrForm},
		{[]string{"a/b", "c"}, "", api.ErrForm},
		{[]string{"a/", "c"}, "", api.ErrForm},
		{[]string{"a", "/c"}, "", api.ErrForm},
		{[]string{"a", "b", "/", "c"}, "", api.ErrForm},
		{[]string{full}, "", api.ErrForm},
		{[]string{full + "/a"}, "", api.ErrForm},
		{[]string{strings.Repeat("a", 70), "a/b"}, "", api.ErrForm},
		{[]string{"a/b", strings.Repeat("a", 70)}, "", api.ErrForm},
		{[]string{strings.Repeat("a/", 40)}, "", api.ErrForm},
		{[]string{"1234567890123", "a/b"}, "", api.ErrForm},
		{[]string{"a", "b", "c", "d", "e", "f", "g/h"}, "", api.ErrForm},
		// The errors of Check.
		{[]string{""}, "", api.ErrForm},
		{[]string{"", ""}, "", api.ErrForm},
		{[]string{"a", ""}, "", api.ErrForm},
		{[]string{"", "a"}, "", api.ErrForm},
		{[]string{"a", "", "b"}, "", api.ErrForm},
		{[]string{"."}, "", api.ErrForm},
		{[]string{"a", "."}, "", api.ErrForm},
		{[]string{"a", ".."}, "", api.ErrForm},
		{[]string{"-", "a"}, "", api.ErrForm},
		{[]string{"a b"}, "", api.ErrForm},
		{[]string{"a", "\xff"}, "", api.ErrForm},
		{[]string{"\xe6\xbc", "\xa2"}, "", api.ErrForm},
		{[]string{"1234567890123", " "}, "", api.ErrForm},
		{[]string{"a", "b", "c", "d", "e", "f", ""}, "", api.ErrForm},
		{[]string{"1234567890123"}, "", api.ErrLong},
		{[]string{"a", "漢漢漢漢漢漢漢漢漢漢漢漢漢"}, "", api.ErrLong},
		{[]string{"a", "b", "c", "d", "e", "f", "1234567890123"}, "", api.ErrLong},
		{[]string{"123456789012", "123456789012", "123456789012", "123456789012", "1234567890123"}, "", api.ErrLong},
		{[]string{strings.Repeat(" ", 64)}, "", api.ErrForm},
		{[]string{strings.Repeat(" ", 65)}, "", api.ErrLong},
		{[]string{strings.Repeat("a", 64), ""}, "", api.ErrLong},
		{[]string{strings.Repeat("a", 63), ""}, "", api.ErrForm},
		{slices.Repeat([]string{""}, 65), "", api.ErrForm},
		{slices.Repeat([]string{""}, 66), "", api.ErrLong},
		{[]string{"a", "b", "c", "d", "e", "f", "g"}, "", api.ErrMany},
		{slices.Repeat([]string{"a"}, 32), "", api.ErrMany},
		{slices.Repeat([]string{"a"}, 33), "", api.ErrLong},
	}
	for _, c := range cases {
		if got, bad := route.Join(c.parts...); got != c.want || bad != c.bad {
			t.Errorf("Join(%q) = %q, %d, not %q, %d", c.parts, got, bad, c.want, c.bad)
		}
	}
}

// P4.3: Join neither changes its list nor reads beyond its length.
func TestJoinLeavesList(t *testing.T) {
	l := []string{"b", "a", "x/y", "", "c"}
	if got, bad := route.Join(l[:2]...); got != "b/a" || bad != api.OK {
		t.Errorf("Join = %q, %d", got, bad)
	}
	if got, bad := route.Join(l[:0]...); got != "" || bad != api.ErrForm {
		t.Errorf("Join of nothing = %q, %d", got, bad)
	}
	if want := []string{"b", "a", "x/y", "", "c"}; !slices.Equal(l, want) {
		t.Errorf("the list became %q", l)
	}
}

// within reports whether s shares memory with whole.
func within(s, whole string) bool {
	at := uintptr(unsafe.Pointer(unsafe.StringData(s)))
	from := uintptr(unsafe.Pointer(unsafe.StringData(whole)))
	return at+uintptr(len(s)) > from && at < from+uintptr(len(whole))
}

// P4.3, P4.5: each answer is new memory.
func TestAnswersAreNew(t *testing.T) {
	for _, s := range []string{"a", "team/äpfel", full} {
		s = strings.Clone(s)
		first, _ := route.Parts(s)
		want := slices.Clone(first)
		second, _ := route.Parts(s)
		for i := range second[:cap(second)] {
			second[:cap(second)][i] = "#"
		}
		if third, _ := route.Parts(s); !slices.Equal(first, want) || !slices.Equal(third, want) {
			t.Errorf("Parts(%q): %q, then %q, not %q", s, first, third, want)
		}
		for _, part := range first {
			if within(part, s) {
				t.Errorf("a part of %q is a piece of it", s)
			}
		}
		joined, _ := route.Join(first...)
		for _, part := range first {
			if within(part, joined) {
				t.Errorf("%q has a part that was joined", joined)
			}
		}
		if within(route.Clean(s), s) {
			t.Errorf("Clean(%q) is a piece of it", s)
		}
	}
}

// P4.4: Count.
func TestCount(t *testing.T) {
	cases := []struct {
		s    string
		want int
		bad  api.Errno
	}{
		{"", 0, api.OK}, {"a", 1, api.OK}, {"/", 1, api.OK}, {"team/äpfel", 10, api.OK}, {"aä漢😀", 4, api.OK}, {"\x00\x00", 2, api.OK},
		{"\x7f\u0080\u07ff\u0800\ud7ff\ue000\uffff\U00010000\U0010ffff", 9, api.OK}, {"\ufffd", 1, api.OK}, {"a\ufffdb", 3, api.OK},
		{"e\u0301", 2, api.OK}, {"\r\n", 2, api.OK}, {strings.Repeat("漢", 50000), 50000, api.OK},
		{"\xe6\xbc", 2, api.ErrForm}, {"\xe6\xbca", 3, api.ErrForm}, {"\xe6\xbc\xa2\xa2", 2, api.ErrForm}, {"漢\xff漢", 3, api.ErrForm},
		{"\xff\ufffd", 2, api.ErrForm}, {"\ufffd\xff", 2, api.ErrForm}, {"a\x80", 2, api.ErrForm}, {"\xc3ä", 2, api.ErrForm}, {"\xc3\xc3\xa4", 2, api.ErrForm},
		{"\xf0\x9f\x98漢", 4, api.ErrForm}, {"\xed\xa0\x80\xed\xb0\x80", 6, api.ErrForm}, {strings.Repeat("\xc3", 50000), 50000, api.ErrForm},
	}
	for _, c := range cases {
		if got, bad := route.Count(c.s); got != c.want || bad != c.bad {
			t.Errorf("Count(%.20q) = %d, %d, not %d, %d", c.s, got, bad, c.want, c.bad)
		}
	}
}

// P4.4: Count of each character, and of bytes that are none.
func TestCountOfEach(t *testing.T) {
	for c := rune(0); c <= utf8.MaxRune; c++ {
		if c == 0xd800 {
			c = 0xe000
		}
		if got, bad := route.Count(string(c)); got != 1 || bad != api.OK {
			t.Fatalf("Count of %#x = %d, %d", c, got, bad)
		}
	}
	for b := 0x80; b < 0x100; b++ {
		if got, bad := route.Count(string([]byte{byte(b)})); got != 1 || bad != api.ErrForm {
			t.Errorf("Count of byte %#x = %d, %d", b, got, bad)
		}
	}
	for _, s := range wrong {
		if got, bad := route.Count(s); got != len(s) || bad != api.ErrForm {
			t.Errorf("Count(%q) = %d, %d", s, got, bad)
		}
		if got, bad := route.Count("ä" + s + "/漢"); got != len(s)+3 || bad != api.ErrForm {
			t.Errorf("Count of ä, %q, / and 漢 = %d, %d", s, got, bad)
		}
	}
}

// P4.5: Clean.
func TestClean(t *testing.T) {
	cases := []struct{ s, want string }{
		{"", ""}, {"a", "a"}, {"team/äpfel", "teamäpfel"}, {"b a\tb", "bab"}, {"/", ""}, {"//", ""}, {"..", ".."}, {"-", "-"}, {" ", ""},
		{"/a\xc3 \u00bfÀ\ud7ff\ue000z", "aÀ\ud7ffz"}, {"a\ufffdb\xffc", "abc"}, {"\xe6\xbca", "a"}, {"\xc3ä", "ä"}, {"漢\xa2", "漢"}, {"😀", ""},
		{allowed, allowed}, {full, strings.Repeat("123456789012", 5)}, {strings.Repeat("/漢", 5000), strings.Repeat("漢", 5000)},
	}
	for _, c := range cases {
		if got := route.Clean(c.s); got != c.want {
			t.Errorf("Clean(%.20q) = %.20q, not %.20q", c.s, got, c.want)
		}
	}
}

// P4.5: Clean of each character, and of bytes that are none.
func TestCleanOfEach(t *testing.T) {
	for c := rune(0); c <= utf8.MaxRune; c++ {
		want := "ab"
		if isAllowed(c) {
			want = "a" + string(c) + "b"
		}
		if got := route.Clean("a" + string(c) + "b"); got != want {
			t.Fatalf("Clean of a, %#x and b = %q", c, got)
		}
	}
	for _, s := range slices.Concat(wrong, outside) {
		if got := route.Clean(s + "Z" + s + "漢" + s); got != "Z漢" {
			t.Errorf("Clean of %q around Z and 漢 = %q", s, got)
		}
	}
}

// P4.5: Clean keeps all of what has allowed characters only, so that Clean of
// Clean changes nothing.
func TestCleanOfMany(t *testing.T) {
	next := noise(43)
	for range 5000 {
		s := some(int(next()%60), next)
		var want []rune
		for _, c := range []rune(s) {
			if isAllowed(c) {
				want = append(want, c)
			}
		}
		got := route.Clean(s)
		if got != string(want) || route.Clean(got) != got {
			t.Fatalf("Clean(%q) = %q, not %q", s, got, string(want))
		}
	}
}

// P4.6: Join of the parts of a path is the path.
func TestJoinOfParts(t *testing.T) {
	next := noise(47)
	count := 0
	for _, c := range paths {
		count += joinsBack(t, c.s)
	}
	for range 20000 {
		count += joinsBack(t, some(1+int(next()%30), next))
	}
	if count < 1000 {
		t.Errorf("only %d texts were paths", count)
	}
}

// joinsBack returns 1 if s is a path, and fails the test if its parts aren't
// its pieces, or don't join to it.
func joinsBack(t *testing.T, s string) int {
	t.Helper()
	parts, bad := route.Parts(s)
	if bad != api.OK {
		return 0
	}
	if len(parts) != strings.Count(s, "/")+1 || len(parts) > mostParts {
		t.Fatalf("Parts(%q) = %q", s, parts)
	}
	for _, part := range parts {
		if bad := route.Part(part); bad != api.OK {
			t.Fatalf("Part(%q) of %q = %d", part, s, bad)
		}
	}
	if got, bad := route.Join(parts...); got != s || bad != api.OK {
		t.Fatalf("Join of the parts of %q = %q, %d", s, got, bad)
	}
	return 1
}

// P4.6: the parts of a joined path are those that were joined.
func TestPartsOfJoin(t *testing.T) {
	next := noise(53)
	count := 0
	for range 20000 {
		var parts []string
		for range 1 + next()%7 {
			part := strings.ReplaceAll(some(1+int(next()%6), next), "/", "")
			parts = append(parts, part)
		}
		path, bad := route.Join(parts...)
		if want := checked(strings.Join(parts, "/")); bad != want {
			t.Fatalf("Join(%q): %d, not %d", parts, bad, want)
		}
		if bad != api.OK {
			continue
		}
		count++
		if got, bad := route.Parts(path); bad != api.OK || !slices.Equal(got, parts) {
			t.Fatalf("Parts of Join(%q) = %q, %d", parts, got, bad)
		}
	}
	if count < 1000 {
		t.Errorf("only %d lists were joined", count)
	}
}
