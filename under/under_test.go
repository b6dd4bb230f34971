package under_test

import (
	"slices"
	"strings"
	"testing"
	"unsafe"

	"padlock/under"
)

// noise returns a function that returns numbers of no pattern, the same in every run.
func noise(seed uint64) func() uint64 {
	return func() uint64 {
		seed ^= seed << 13
		seed ^= seed >> 7
		seed ^= seed << 17
		return seed
	}
}

// shortTexts returns every text of at most n of the pieces.
func shortTexts(n int, pieces ...string) []string {
	texts := []string{""}
	longest := texts
	for range n {
		var longer []string
		for _, s := range longest {
			for _, piece := range pieces {
				longer = append(longer, s+piece)
			}
		}
		texts = append(texts, longer...)
		longest = longer
	}
	return texts
}

// odd are texts that are no paths: with slashes at their ends or in a row, and
// with bytes that are no character.
var odd = []string{
	"/", "//", "///", "/a", "//a", "a/", "a//", "/a/", "a//b", "/a//b/", ".", "..", "a/..", "-", " ", "a b",
	"\x00", "\x00/\x00", "\x80", "\xff", "\xff/\xfe", "a/\xff", "\xff/a", "\xc3/\xa4", "\xc0\xaf", "a\xc0\xafb", "\xe6\xbc", "\xed\xa0\x80/b",
	"ä", "ä/漢", "team/äpfel", "a\\b", "a∕b", "😀/b", strings.Repeat("a/", 5000), strings.Repeat("/", 5000), strings.Repeat("\xff", 5000),
}

// some returns a text of up to n pieces of no pattern, with many slashes.
func some(n uint64, next func() uint64) string {
	pieces := []string{"a", "b", "ab", "/", "/", "/", "ä", "\xc3", "\xa4", "\xff", "\x00"}
	var b strings.Builder
	for range next() >> 8 % (n + 1) {
		b.WriteString(pieces[next()>>16%uint64(len(pieces))])
	}
	return b.String()
}

// isWithin is the chapter's definition.
func isWithin(s, top string) bool {
	return len(top) == 0 || s == top || strings.Index(s, top+"/") == 0
}

// P5.1: Within and Below.
func TestWithinAndBelow(t *testing.T) {
	cases := []struct {
		s, top        string
		within, below bool
	}{
		{"a/b", "a", true, true}, {"a/b", "a/b", true, false}, {"a/b", "a/", false, false}, // the chapter's example
		{"a", "a", true, false}, {"a/b/c", "a", true, true}, {"a/b/c", "a/b", true, true}, {"a/b/c", "a/b/c", true, false},
		{"team/äpfel", "team", true, true}, {"ä/b", "ä", true, true},
		// top is empty.
		{"", "", true, false}, {"a", "", true, true}, {"a/b", "", true, true}, {"/", "", true, true}, {"/a", "", true, true}, {"\xff", "", true, true}, {"\x00", "", true, true},
		// s is empty.
		{"", "a", false, false}, {"", "/", false, false}, {"", "a/", false, false}, {"", "\x00", false, false},
		// s begins with top, and goes on without a slash.
		{"ab", "a", false, false}, {"ab/c", "a", false, false}, {"a/bc", "a/b", false, false}, {"a.", "a", false, false}, {"a0", "a", false, false},
		{"a\x00/b", "a", false, false}, {"a\xff", "a", false, false}, {"a∕b", "a", false, false}, {"a\\b", "a", false, false}, {"a\xc0\xafb", "a", false, false},
		// s has top elsewhere, or in another form.
		{"b/a", "a", false, false}, {"b/a/c", "a", false, false}, {"/a", "a", false, false}, {"/a/b", "a", false, false}, {"A/b", "a", false, false}, {"b/c", "a", false, false}, {"a", "a/b", false, false}, {"a", "ab", false, false},
		// top ends with a slash.
		{"a/", "a/", true, false}, {"a//", "a/", true, true}, {"a//b", "a/", true, true}, {"a", "a/", false, false}, {"a/b/", "a/b/", true, false}, {"a/b/c", "a/b/", false, false},
		{"/", "/", true, false}, {"//", "/", true, true}, {"//a", "/", true, true}, {"/a", "/", false, false}, {"///", "//", true, true}, {"//a", "//", false, false},
		// Texts that begin or end with a slash, or have several in a row.
		{"a/", "a", true, true}, {"a//", "a", true, true}, {"a//b", "a", true, true}, {"a///b", "a//", true, true}, {"a//b", "a//b", true, false}, {"a/b", "a//b", false, false}, {"a//b", "a/b", false, false},
		{"/a/b", "/a", true, true}, {"/a", "/a", true, false}, {"/a/", "/a", true, true}, {"/ab", "/a", false, false}, {"a/b", "/a", false, false},
		// Bytes that are no character.
		{"\xff/b", "\xff", true, true}, {"\xff", "\xff", true, false}, {"\xff\xff", "\xff", false, false}, {"\xfe/b", "\xff", false, false},
		{"\xc3/\xa4", "\xc3", true, true}, {"ä/b", "\xc3", false, false}, {"ä", "\xc3", false, false}, {"\xc3/b", "ä", false, false}, {"\xef\xbf\xbd/b", "\xff", false, false},
		{"\x00/", "\x00", true, true}, {"\x00\x00", "\x00", false, false}, {"a/./b", "a", true, true}, {"./a", "a", false, false}, {"a/../b", "b", false, false},
	}
	for _, c := range cases {
		if got := under.Within(c.s, c.top); got != c.within {
			t.Errorf("Within(%q, %q) = %t", c.s, c.top, got)
		}
		if got := under.Below(c.s, c.top); got != c.below {
			t.Errorf("Below(%q, %q) = %t", c.s, c.top, got)
		}
	}
}

// P5.1: Within and Below of all pairs of short texts, and of odd ones.
func TestWithinOfEachPair(t *testing.T) {
	texts := append(shortTexts(4, "a", "b", "/", "\xff"), odd...)
	for _, s := range texts {
		for _, top := range texts {
			want := isWithin(s, top)
			if got := under.Within(s, top); got != want {
				t.Fatalf("Within(%.20q, %.20q) = %t", s, top, got)
			}
			if got := under.Below(s, top); got != (want && s != top) {
				t.Fatalf("Below(%.20q, %.20q) = %t", s, top, got)
			}
		}
	}
}

// P5.2: Parent.
func TestParent(t *testing.T) {
	cases := []struct{ s, want string }{
		{"a/b", "a"}, {"a/b/c", "a/b"}, {"team/äpfel", "team"}, {"ä/漢/é", "ä/漢"},
		// Without a slash.
		{"", ""}, {"a", ""}, {"abc", ""}, {"ä", ""}, {"..", ""}, {"a\\b", ""}, {"a∕b", ""}, {"a\xc0\xafb", ""}, {"\xff", ""}, {"\x00", ""},
		// At the end.
		{"a/", "a"}, {"a/b/", "a/b"}, {"a//", "a/"}, {"a///", "a//"}, {"/", ""}, {"//", "/"}, {"///", "//"}, {"/a/", "/a"},
		// At the beginning, and several in a row.
		{"/a", ""}, {"//a", "/"}, {"/a/b", "/a"}, {"a//b", "a/"}, {"a///b", "a//"}, {"a//b/c", "a//b"},
		// Bytes that are no character.
		{"\xff/\xfe", "\xff"}, {"\xc3/\xa4", "\xc3"}, {"a/\xff", "a"}, {"\x80/", "\x80"}, {"\x00/\x00/\x00", "\x00/\x00"},
		{strings.Repeat("a/", 5000), strings.Repeat("a/", 4999) + "a"},
	}
	for _, c := range cases {
		if got := under.Parent(c.s); got != c.want {
			t.Errorf("Parent(%.20q) = %.20q, not %.20q", c.s, got, c.want)
		}
	}
}

// P5.2: Parent of each short text is what stands before a slash with no other
// slash behind it.
func TestParentOfEach(t *testing.T) {
	for _, s := range append(shortTexts(6, "a", "/", "\xff"), odd...) {
		pieces := strings.Split(s, "/")
		want := strings.Join(pieces[:len(pieces)-1], "/")
		if got := under.Parent(s); got != want {
			t.Fatalf("Parent(%.20q) = %.20q, not %.20q", s, got, want)
		}
	}
}

// P5.3: Child.
func TestChild(t *testing.T) {
	cases := []struct {
		s, top, want string
		is           bool
	}{
		{"a/b/c", "a", "b/", true}, {"a/d", "a", "d", true}, {"ab", "a", "", false}, // the chapter's example
		{"a/b/c", "a/b", "c", true}, {"a/b/c/d/e", "a/b", "c/", true}, {"team/äpfel", "team", "äpfel", true}, {"ä/漢/é", "ä", "漢/", true},
		// top is empty.
		{"a", "", "a", true}, {"abc", "", "abc", true}, {"a/b/c", "", "a/", true}, {"a/", "", "a/", true}, {"ä/b", "", "ä/", true}, {"", "", "", false},
		// A slash ends what is behind top, or begins it.
		{"a/b/", "a", "b/", true}, {"a/b//", "a", "b/", true}, {"a/", "a", "", true}, {"a//", "a", "/", true}, {"a//b", "a", "/", true}, {"a//b/c", "a", "/", true}, {"a///", "a", "/", true},
		{"/", "", "/", true}, {"/a", "", "/", true}, {"//", "", "/", true}, {"//a", "", "/", true}, {"/a/b", "", "/", true}, {"/a/b", "/a", "b", true},
		// top ends with a slash.
		{"a//b", "a/", "b", true}, {"a//b/c", "a/", "b/", true}, {"a//", "a/", "", true}, {"a///", "a/", "/", true}, {"//a", "/", "a", true}, {"//", "/", "", true}, {"///", "/", "/", true},
		{"a/b", "a/", "", false}, {"a/", "a/", "", false}, {"/a", "/", "", false}, {"a/b/c", "a/b/", "", false},
		// s is not below top.
		{"a", "a", "", false}, {"a/b", "a/b", "", false}, {"a", "a/b", "", false}, {"a", "b", "", false}, {"", "a", "", false}, {"", "/", "", false}, {"b/a/c", "a", "", false},
		{"ab/c", "a", "", false}, {"a/bc/d", "a/b", "", false}, {"/a/b", "a", "", false}, {"a\xc0\xafb", "a", "", false}, {"a∕b", "a", "", false}, {"a\\b", "a", "", false},
		// Bytes that are no character.
		{"\xff/\xfe/\xfd", "\xff", "\xfe/", true}, {"\xff/\xfe", "", "\xff/", true}, {"\xc3/\xa4", "\xc3", "\xa4", true}, {"ä/b", "\xc3", "", false}, {"a/\x00/", "a", "\x00/", true},
		{"a/b\xc0\xafc", "a", "b\xc0\xafc", true}, {"a/b∕c/d", "a", "b∕c/", true}, {"\xef\xbf\xbd/b", "\xff", "", false},
		{strings.Repeat("a", 5000) + "/b/c", strings.Repeat("a", 5000), "b/", true},
	}
	for _, c := range cases {
		if got, is := under.Child(c.s, c.top); got != c.want || is != c.is {
			t.Errorf("Child(%.20q, %.20q) = %q, %t, not %q, %t", c.s, c.top, got, is, c.want, c.is)
		}
	}
}

// childOf is Child by the pieces of what is behind top.
func childOf(s, top string) (string, bool) {
	switch {
	case s == top || !isWithin(s, top):
		return "", false
	case top != "":
		s = s[len(top)+1:]
	}
	return strings.SplitAfter(s, "/")[0], true
}

// P5.3: Child of all pairs of short texts, which has one exactly if it is below.
func TestChildOfEachPair(t *testing.T) {
	texts := shortTexts(5, "a", "b", "/")
	for _, top := range shortTexts(3, "a", "b", "/") {
		for _, s := range texts {
			want, wantIs := childOf(s, top)
			got, is := under.Child(s, top)
			if got != want || is != wantIs || is != under.Below(s, top) {
				t.Fatalf("Child(%q, %q) = %q, %t, not %q, %t", s, top, got, is, want, wantIs)
			}
		}
	}
}

// P5.3: Children.
func TestChildren(t *testing.T) {
	cases := []struct {
		top  string
		l    []string
		want []string
	}{
		{"a", []string{"a/b/c", "a/d", "ab"}, []string{"b/", "d"}}, // the chapter's example
		{"a", []string{"a/b"}, []string{"b"}},
		{"a/b", []string{"a/b/c", "a/c/d", "a/b/c/d", "a/b"}, []string{"c", "c/"}},
		// Of no element, and of elements without a Child.
		{"a", nil, nil}, {"", nil, nil}, {"a", []string{}, nil}, {"", []string{""}, nil}, {"", []string{"", ""}, nil},
		{"a", []string{"a", "ab", "b/a", "", "/", "/a", "A/b", "a\xff"}, nil}, {"a/", []string{"a/b", "a/", "a"}, nil},
		{"", []string{"", "a", ""}, []string{"a"}}, {"a", []string{"x", "a/b", "a"}, []string{"b"}},
		// The same one more than once.
		{"a", []string{"a/b", "a/b"}, []string{"b"}}, {"a", []string{"a/b/c", "a/b/d", "a/b/", "a/b/c"}, []string{"b/"}},
		{"a", []string{"a/b/c", "a/b", "a/b/d", "a/b"}, []string{"b", "b/"}}, {"", []string{"a/b", "b", "a/c", "b", "a", "a/b"}, []string{"a", "a/", "b"}},
		{"a", []string{"a/", "a/b", "a/", "a//c", "a//"}, []string{"", "/", "b"}}, {"", []string{"/a", "/", "//", "b/"}, []string{"/", "b/"}},
		{"a", []string{"a/c", "a/b", "a/c", "a/b", "a/a", "a/c"}, []string{"a", "b", "c"}},
		// In increasing order of bytes.
		{"", []string{"é", "z", "Z", "0", "_", "漢", ".", "-", "a"}, []string{"-", ".", "0", "Z", "_", "a", "z", "é", "漢"}},
		{"x", []string{"x/\xff", "x/\x00", "x/\x80", "x/\x7f", "x/ä", "x/~", "x/\xc3"}, []string{"\x00", "~", "\x7f", "\x80", "\xc3", "ä", "\xff"}},
		{"x", []string{"x/b", "x/a/", "x/a0", "x/a.", "x/a", "x/aa", "x/ab/c", "x/"}, []string{"", "a", "a.", "a/", "a0", "aa", "ab/", "b"}},
		{"x", []string{"x/10", "x/9", "x/1", "x/01"}, []string{"01", "1", "10", "9"}},
		{"x", []string{"x/\U00010000", "x/\uffff", "x/\ue000"}, []string{"\ue000", "\uffff", "\U00010000"}},
		// Bytes that are no character.
		{"\xff", []string{"\xff/\xfe/a", "\xff/\xfe", "\xff/\xfd", "\xff\xff", "\xfe/a"}, []string{"\xfd", "\xfe", "\xfe/"}},
		{"\xc3", []string{"ä/b", "\xc3/\xa4/", "\xc3/\xa4"}, []string{"\xa4", "\xa4/"}},
	}
	for _, c := range cases {
		if got := under.Children(c.top, c.l...); !slices.Equal(got, c.want) {
			t.Errorf("Children(%q, %q) = %q, not %q", c.top, c.l, got, c.want)
		}
	}
}

// P5.3: Children of many lists: they rise, each comes once, and they are the
// Child of an element.
func TestChildrenOfMany(t *testing.T) {
	next := noise(51)
	for range 5000 {
		var l []string
		for range next() >> 8 % 40 {
			l = append(l, some(6, next))
		}
		top := some(2, next)
		found := map[string]bool{}
		for _, s := range l {
			if child, is := childOf(s, top); is {
				found[child] = true
			}
		}
		got := under.Children(top, l...)
		if len(got) != len(found) {
			t.Fatalf("Children(%q, %q) = %q", top, l, got)
		}
		for i, child := range got {
			if !found[child] || i > 0 && got[i-1] >= child {
				t.Fatalf("Children(%q, %q) = %q", top, l, got)
			}
		}
	}
}

// P5.3: Children neither changes its list nor reads beyond its length, and
// ends soon for a long one.
func TestChildrenLeavesList(t *testing.T) {
	l := []string{"a/d", "a/b/c", "ab", "a/d", "a/a"}
	if got := under.Children("a", l[:4]...); !slices.Equal(got, []string{"b/", "d"}) {
		t.Errorf("Children = %q", got)
	}
	if !slices.Equal(l, []string{"a/d", "a/b/c", "ab", "a/d", "a/a"}) {
		t.Errorf("the list became %q", l)
	}
	long := slices.Repeat([]string{"a/b", "a/a/x", "b", "a/c/"}, 50000)
	if got := under.Children("a", long...); !slices.Equal(got, []string{"a/", "b", "c/"}) {
		t.Errorf("Children of a long list = %.20q", got)
	}
}

// P5.4: Common.
func TestCommon(t *testing.T) {
	cases := []struct{ a, b, want string }{
		{"a/b/c", "a/b/d", "a/b"}, {"a/b/c", "a/d", "a"}, {"a/b/c/d", "a/b/c/d", "a/b/c/d"}, {"team/äpfel", "team/x", "team"},
		// One is within the other.
		{"a", "a", "a"}, {"a/b", "a", "a"}, {"a/b/c", "a", "a"}, {"a/b/c", "a/b", "a/b"}, {"a", "", ""}, {"a/b", "", ""}, {"", "", ""}, {"/", "", ""}, {"/a", "", ""},
		{"a/", "a", "a"}, {"a//", "a", "a"}, {"a//b", "a", "a"}, {"a//", "a/", "a/"}, {"a//b", "a/", "a/"}, {"//", "/", "/"}, {"//a", "/", "/"},
		// Nothing in common.
		{"a", "b", ""}, {"a/b", "b/a", ""}, {"a/x", "b/x", ""}, {"a", "A", ""}, {"a", "/a", ""}, {"a", "/", ""}, {"ä", "é", ""}, {"a/b", "b", ""},
		// They part in the middle of a component.
		{"ab", "ac", ""}, {"ab", "a", ""}, {"ab/c", "a/c", ""}, {"a/b", "a/bc", "a"}, {"a/bc", "a/bd", "a"}, {"a/bc/d", "a/b/d", "a"}, {"a/b/cd", "a/b/ce", "a/b"},
		{"a/b/c", "a/bc", "a"}, {"abc/d", "abd/d", ""}, {"a/b/c", "ab/b/c", ""}, {"a/b/cd/e", "a/b/c/e", "a/b"}, {"a/b/cd", "a/b/c", "a/b"},
		// Texts that begin or end with a slash, or have several in a row.
		{"/", "/", "/"}, {"/a", "/b", ""}, {"/a", "/", ""}, {"/a", "/a/b", "/a"}, {"/a/b", "/a/c", "/a"}, {"/ab", "/a", ""}, {"//a", "//b", "/"}, {"///", "//", "//"}, {"//a", "/a", ""}, {"//", "/a", ""},
		{"a/", "a/", "a/"}, {"a/", "a/b", "a"}, {"a/b", "a//b", "a"}, {"a//b", "a//c", "a/"}, {"a///", "a//b", "a/"}, {"a/b/", "a/b", "a/b"}, {"a/b/", "a/c/", "a"}, {"a/b/", "a/b/c", "a/b"}, {"a//b/c", "a//b/d", "a//b"},
		// Bytes that are no character.
		{"\xff", "\xff", "\xff"}, {"\xff/a", "\xff/b", "\xff"}, {"\xff/a", "\xfe/a", ""}, {"ä", "å", ""}, {"a/ä", "a/å", "a"}, {"\xc3/\xa4", "\xc3/\xa5", "\xc3"}, {"\xc3/\xa4", "ä", ""},
		{"a\xc0\xafb", "a\xc0\xafc", ""}, {"a∕b", "a∕c", ""}, {"\x00/\x00", "\x00/\x01", "\x00"}, {"a/\xff\xff", "a/\xff", "a"},
		{strings.Repeat("a/", 5000) + "b", strings.Repeat("a/", 5000) + "c", strings.Repeat("a/", 4999) + "a"},
		{strings.Repeat("a/", 5000), strings.Repeat("a/", 4000), strings.Repeat("a/", 3999) + "a"},
	}
	for _, c := range cases {
		if got := under.Common(c.a, c.b); got != c.want {
			t.Errorf("Common(%.20q, %.20q) = %.20q, not %.20q", c.a, c.b, got, c.want)
		}
		if got := under.Common(c.b, c.a); got != c.want {
			t.Errorf("Common(%.20q, %.20q) = %.20q, not %.20q", c.b, c.a, got, c.want)
		}
	}
}

// commonOf returns the longest beginning of a that both are within.
func commonOf(a, b string) string {
	for end := len(a); ; end-- {
		if isWithin(a, a[:end]) && isWithin(b, a[:end]) {
			return a[:end]
		}
	}
}

// P5.4: Common of all pairs of short texts, and of many longer ones.
func TestCommonOfEachPair(t *testing.T) {
	texts := shortTexts(5, "a", "b", "/")
	next := noise(53)
	for range 300 {
		texts = append(texts, some(12, next))
	}
	for _, a := range texts {
		for _, b := range texts {
			if got, want := under.Common(a, b), commonOf(a, b); got != want {
				t.Fatalf("Common(%q, %q) = %q, not %q", a, b, got, want)
			}
		}
	}
}

// P5.5: Longest.
func TestLongest(t *testing.T) {
	cases := []struct {
		s    string
		l    []string
		want int
	}{
		{"a/b/c", []string{"a"}, 0}, {"a/b/c", []string{"a", "a/b"}, 1}, {"a/b/c", []string{"a/b", "a"}, 0}, {"a/b/c", []string{"x", "a", "a/b/c", "a/b"}, 2},
		{"a/b", []string{"a/bc", "a/b/c", "a", "ab"}, 2}, {"ä/b", []string{"\xc3", "ä", "b"}, 1},
		// None.
		{"a", nil, -1}, {"", nil, -1}, {"a", []string{}, -1}, {"a", []string{"b"}, -1}, {"a", []string{"ab", "a/b", "a/", "/a", "/"}, -1}, {"ab", []string{"a"}, -1}, {"", []string{"a", "/"}, -1},
		// Several of the same length.
		{"a/b", []string{"a", "a"}, 0}, {"a/b/c", []string{"x", "a", "a/b", "a", "a/b", "x/y"}, 2}, {"a/b", []string{"b", "a/b", "a/b", "a/b"}, 1}, {"a", []string{"b", "a", "c", "a"}, 1},
		{"a/b", []string{"a/c", "a", "a/x", "a"}, 1}, {"\xff/a", []string{"\xfe", "\xff", "\xff"}, 1},
		// Empty elements.
		{"a", []string{""}, 0}, {"", []string{""}, 0}, {"", []string{"a", ""}, 1}, {"a", []string{"", ""}, 0}, {"a", []string{"b", "", "c", ""}, 1}, {"a", []string{"", "a"}, 1}, {"a", []string{"a", ""}, 0},
		{"a/b/c", []string{"", "a/b", "a", "a/b", "x"}, 1}, {"a/b", []string{"", "b", "", "a", ""}, 3}, {"/a", []string{"/", ""}, 1}, {"", []string{"", "", "/"}, 0},
		// Longer ones that it isn't within.
		{"a/b", []string{"a/b/c/d", "a", "a/c/d"}, 1}, {"a", []string{"", "bbbb"}, 0}, {"a", []string{"bbbb", ""}, 1}, {"a//b", []string{"a", "a/", "a//", "a//b"}, 3}, {"a//b", []string{"a", "a/", "a//"}, 1},
	}
	for _, c := range cases {
		if got := under.Longest(c.s, c.l...); got != c.want {
			t.Errorf("Longest(%q, %q) = %d, not %d", c.s, c.l, got, c.want)
		}
	}
}

// P5.5: Longest of many lists, which it leaves as they are.
func TestLongestOfMany(t *testing.T) {
	next := noise(59)
	seen := map[int]int{}
	for range 20000 {
		var l []string
		for range next() >> 8 % 8 {
			l = append(l, some(3, next))
		}
		s := some(5, next)
		want := -1
		for n := 0; n <= len(s) && len(l) > 0; n++ {
			place := slices.Index(l, s[:n])
			if place >= 0 && isWithin(s, s[:n]) {
				want = place
			}
		}
		before := slices.Clone(l)
		if got := under.Longest(s, l...); got != want {
			t.Fatalf("Longest(%q, %q) = %d, not %d", s, l, got, want)
		}
		if !slices.Equal(l, before) {
			t.Fatalf("the list %q became %q", before, l)
		}
		seen[want]++
	}
	for place := -1; place < 5; place++ {
		if seen[place] == 0 {
			t.Errorf("no list has its longest element at %d", place)
		}
	}
}

// P5.6: Nested.
func TestNested(t *testing.T) {
	cases := []struct {
		s    string
		l    []string
		want bool
	}{
		// Each direction, and both.
		{"a", []string{"a/b"}, true}, {"a/b", []string{"a"}, true}, {"a", []string{"a"}, true}, {"a", []string{"a/b/c"}, true}, {"a/b/c", []string{"a"}, true}, {"a/b", []string{"a/b"}, true},
		// One among others, at each place.
		{"a", []string{"a/b", "x", "y"}, true}, {"a", []string{"x", "a/b", "y"}, true}, {"a", []string{"x", "y", "a/b"}, true},
		{"a/b", []string{"a", "x", "y"}, true}, {"a/b", []string{"x", "a", "y"}, true}, {"a/b", []string{"x", "y", "a"}, true},
		// Of no element, and of none that is.
		{"a", nil, false}, {"", nil, false}, {"a", []string{}, false}, {"a", []string{"b"}, false}, {"a", []string{"ab"}, false}, {"ab", []string{"a"}, false}, {"a", []string{"b", "ab", "b/a", "/a", "A"}, false},
		{"a/b", []string{"a/c", "a/bc", "ab", "b"}, false}, {"a/bc", []string{"a/b"}, false}, {"b/a", []string{"a"}, false}, {"a", []string{"b/a"}, false},
		// The empty text.
		{"a", []string{""}, true}, {"", []string{"a"}, true}, {"", []string{""}, true}, {"a", []string{"b", ""}, true}, {"", []string{"/", "a"}, true},
		// Slashes.
		{"a", []string{"a/"}, true}, {"a/", []string{"a"}, true}, {"a/", []string{"a/b"}, false}, {"a/b", []string{"a/"}, false}, {"a/", []string{"a//b"}, true}, {"a//b", []string{"a/"}, true}, {"/a", []string{"/"}, false}, {"/", []string{"//"}, true}, {"/a", []string{"a"}, false},
		// Bytes that are no character.
		{"\xff", []string{"\xff/a"}, true}, {"\xff/a", []string{"\xff"}, true}, {"\xff", []string{"\xfe/a", "\xff\xff"}, false}, {"\xc3", []string{"ä"}, false}, {"a", []string{"a\xc0\xafb", "a∕b", "a\\b"}, false},
	}
	for _, c := range cases {
		if got := under.Nested(c.s, c.l...); got != c.want {
			t.Errorf("Nested(%q, %q) = %t", c.s, c.l, got)
		}
	}
}

// P5.6: Nested of all pairs of short texts, and of many lists.
func TestNestedOfMany(t *testing.T) {
	texts := append(shortTexts(4, "a", "b", "/"), odd...)
	for _, a := range texts {
		for _, b := range texts {
			if got := under.Nested(a, b); got != (isWithin(a, b) || isWithin(b, a)) {
				t.Fatalf("Nested(%.20q, %.20q) = %t", a, b, got)
			}
		}
	}
	next := noise(61)
	for range 20000 {
		var l []string
		for range next() >> 8 % 5 {
			l = append(l, some(5, next))
		}
		s := some(5, next)
		want := slices.ContainsFunc(l, func(x string) bool { return isWithin(x, s) || isWithin(s, x) })
		before := slices.Clone(l)
		if got := under.Nested(s, l...); got != want {
			t.Fatalf("Nested(%q, %q) = %t", s, l, got)
		}
		if !slices.Equal(l, before) {
			t.Fatalf("the list %q became %q", before, l)
		}
	}
}

// P5.7: every text is within itself, and two that are within each other are equal.
func TestWithinOfItself(t *testing.T) {
	texts := append(shortTexts(5, "a", "/", "\xff"), odd...)
	for _, s := range texts {
		if !under.Within(s, strings.Clone(s)) {
			t.Errorf("%.20q isn't within itself", s)
		}
		for _, top := range texts {
			if under.Within(s, top) && under.Within(top, s) && s != top {
				t.Errorf("%.20q and %.20q are within each other", s, top)
			}
		}
	}
}

// P5.7: what is within a text is also within what that text is within.
func TestWithinOfWithin(t *testing.T) {
	texts := append(shortTexts(6, "a", "/"), shortTexts(3, "a", "ab", "/", "\xff")...)
	chains := 0
	for _, middle := range texts {
		var above []string
		for _, top := range texts {
			if under.Within(middle, top) {
				above = append(above, top)
			}
		}
		for _, s := range texts {
			if !under.Within(s, middle) {
				continue
			}
			for _, top := range above {
				if !under.Within(s, top) {
					t.Fatalf("%q is within %q, that within %q, but not the first within the last", s, middle, top)
				}
				if s != middle && middle != top {
					chains++
				}
			}
		}
	}
	if chains < 100 {
		t.Errorf("only %d chains", chains)
	}
}

// within reports whether s shares memory with whole.
func within(s, whole string) bool {
	at := uintptr(unsafe.Pointer(unsafe.StringData(s)))
	from := uintptr(unsafe.Pointer(unsafe.StringData(whole)))
	return at+uintptr(len(s)) > from && at < from+uintptr(len(whole))
}

// P5.2, P5.3, P5.4: each answer is new memory.
func TestAnswersAreNew(t *testing.T) {
	s, other := strings.Clone("team/a/äpfel"), strings.Clone("team/a/birne")
	child, _ := under.Child(s, "team")
	whole, _ := under.Child(s, "team/a")
	for _, got := range []string{under.Parent(s), child, whole, under.Common(s, other), under.Common(s, s), under.Common(s, "team/b")} {
		if got == "" || within(got, s) || within(got, other) {
			t.Errorf("%q is a piece of what was given", got)
		}
	}
	l := []string{s, other, "team/a", "team/b", strings.Clone("team/c"), "team/b"}
	first := under.Children("team", l...)
	want := slices.Clone(first)
	second := under.Children("team", l...)
	for i := range second[:cap(second)] {
		second[:cap(second)][i] = "#"
	}
	if third := under.Children("team", l...); !slices.Equal(first, want) || !slices.Equal(third, want) {
		t.Errorf("Children: %q, then %q, not %q", first, third, want)
	}
	for _, child := range first {
		for _, s := range l {
			if within(child, s) {
				t.Errorf("a child of %q is a piece of it", s)
			}
		}
	}
}
