package quill_test

import (
	"fmt"
	"math"
	"slices"
	"strings"
	"testing"

	"padlock/api"
	"padlock/quill"
)

// wrongSizes are sizes that no number has.
var wrongSizes = []int{math.MinInt, -8, -1, 0, 9, 10, 64, 256, 257, math.MaxInt}

// full returns a slice with the bytes of s whose spare capacity holds '#'.
func full(s string) []byte {
	b := []byte(s + strings.Repeat("#", 40))
	return b[:len(s)]
}

// untouched fails the test if b or its spare capacity is not as full(s) made it.
func untouched(t *testing.T, b []byte, s string) {
	t.Helper()
	if got, want := string(b[:cap(b)][:len(s)+40]), s+strings.Repeat("#", 40); got != want {
		t.Errorf("argument became %q, not %q", got, want)
	}
}

// apart fails the test if writing to the whole of b changes old or its spare capacity.
func apart(t *testing.T, b, old []byte) {
	t.Helper()
	was := slices.Clone(old[:cap(old)])
	b = b[:cap(b)]
	for i := range b {
		b[i] ^= 0xff
	}
	if !slices.Equal(old[:cap(old)], was) {
		t.Error("the result shares memory with the argument")
	}
}

// noise returns a function that returns numbers of no pattern, the same in every run.
func noise(seed uint64) func() uint64 {
	return func() uint64 {
		seed ^= seed << 13
		seed ^= seed >> 7
		seed ^= seed << 17
		return seed
	}
}

// P1.1: Num.
func TestNumEncodes(t *testing.T) {
	const n = 0xf1e2d3c4b5a69788
	cases := []struct {
		before string
		size   int
		n      uint64
		want   string
	}{
		{"", 2, 258, "\x01\x02"},
		{"x", 1, n, "x\x88"},
		{"x", 2, n, "x\x97\x88"},
		{"x", 3, n, "x\xa6\x97\x88"},
		{"x", 4, n, "x\xb5\xa6\x97\x88"},
		{"x", 5, n, "x\xc4\xb5\xa6\x97\x88"},
		{"x", 6, n, "x\xd3\xc4\xb5\xa6\x97\x88"},
		{"x", 7, n, "x\xe2\xd3\xc4\xb5\xa6\x97\x88"},
		{"x", 8, n, "x\xf1\xe2\xd3\xc4\xb5\xa6\x97\x88"},
		{"", 1, 0, "\x00"},
		{"", 1, 255, "\xff"},
		{"", 1, 256, "\x00"},
		{"", 8, 0, "\x00\x00\x00\x00\x00\x00\x00\x00"},
		{"", 8, 1, "\x00\x00\x00\x00\x00\x00\x00\x01"},
		{"", 8, math.MaxUint64, "\xff\xff\xff\xff\xff\xff\xff\xff"},
		{"\x00ab", 4, 7, "\x00ab\x00\x00\x00\x07"},
	}
	for _, c := range cases {
		if got := quill.Num([]byte(c.before), c.size, c.n); string(got) != c.want {
			t.Errorf("Num(%q, %d, %x) = %q, not %q", c.before, c.size, c.n, got, c.want)
		}
	}
	if got := quill.Num(nil, 1, 5); string(got) != "\x05" {
		t.Errorf("Num(nil, 1, 5) = %q", got)
	}
}

// P1.1: Num of a size that no number has.
func TestNumOfWrongSize(t *testing.T) {
	for _, size := range wrongSizes {
		for _, before := range []string{"", "x", "abc"} {
			if got := quill.Num([]byte(before), size, 0x0102030405060708); string(got) != before {
				t.Errorf("Num(%q, %d) = %q", before, size, got)
			}
		}
		if got := quill.Num(nil, size, 5); len(got) != 0 {
			t.Errorf("Num(nil, %d) = %q", size, got)
		}
	}
}

// P1.1: Num returns a copy.
func TestNumCopies(t *testing.T) {
	for size := range 10 {
		for _, before := range []string{"", "ab"} {
			b := full(before)
			got := quill.Num(b, size, 7)
			untouched(t, b, before)
			apart(t, got, b)
		}
	}
}

// P1.1: Row.
func TestRowEncodes(t *testing.T) {
	long := strings.Repeat("z", 255)
	cases := []struct{ before, s, want string }{
		{"", "ab", "\x00\x02ab"},
		{"", "", "\x00\x00"},
		{"x", "", "x\x00\x00"},
		{"xy", "\x00\xff", "xy\x00\x02\x00\xff"},
		{"", long, "\x00\xff" + long},
		{"", long + "z", "\x01\x00" + long + "z"},
		{"x", long + "zz", "x\x01\x01" + long + "zz"},
	}
	for _, c := range cases {
		if got, e := quill.Row([]byte(c.before), c.s); string(got) != c.want || e != api.OK {
			t.Errorf("Row(%q, %q) = %q, %v, not %q", c.before, c.s, got, e, c.want)
		}
	}
	if got, e := quill.Row(nil, "a"); string(got) != "\x00\x01a" || e != api.OK {
		t.Errorf("Row(nil, a) = %q, %v", got, e)
	}
}

// P1.1: Row of 65535 bytes and of more.
func TestRowOfLimit(t *testing.T) {
	most := strings.Repeat("m", 65535)
	if got, e := quill.Row([]byte("x"), most); string(got) != "x\xff\xff"+most || e != api.OK {
		t.Errorf("a row of 65535 bytes: %d bytes, %v", len(got), e)
	}
	for _, n := range []int{65536, 65537, 131072, 131073} {
		if got, e := quill.Row([]byte("x"), strings.Repeat("m", n)); len(got) != 0 || e != api.ErrLong {
			t.Errorf("a row of %d bytes: %d bytes, %v", n, len(got), e)
		}
	}
}

// P1.1: Row returns a copy.
func TestRowCopies(t *testing.T) {
	for _, before := range []string{"", "ab"} {
		for _, s := range []string{"", "cd", strings.Repeat("m", 65536)} {
			b := full(before)
			got, _ := quill.Row(b, s)
			untouched(t, b, before)
			apart(t, got, b)
		}
	}
}

// P1.1: Rows.
func TestRowsEncodes(t *testing.T) {
	cases := []struct {
		l    []string
		want string
	}{
		{nil, ""},
		{[]string{}, ""},
		{[]string{""}, "\x00\x00"},
		{[]string{"ab"}, "\x00\x02ab"},
		{[]string{"a", "", "bcd"}, "\x00\x01a\x00\x00\x00\x03bcd"},
		{[]string{"", "", ""}, "\x00\x00\x00\x00\x00\x00"},
		{[]string{"b", "a", "b"}, "\x00\x01b\x00\x01a\x00\x01b"},
	}
	for _, c := range cases {
		if got, e := quill.Rows(c.l...); string(got) != c.want || e != api.OK {
			t.Errorf("Rows(%q) = %q, %v, not %q", c.l, got, e, c.want)
		}
	}
}

// P1.1: Rows of 1024 elements and of more, and of elements that are too long.
func TestRowsOfLimits(t *testing.T) {
	most, long := strings.Repeat("m", 65535), strings.Repeat("m", 65536)
	list := func(n int, last string) []string {
		return append(make([]string, n-1), last)
	}
	cases := []struct {
		name string
		l    []string
		size int
		want api.Errno
	}{
		{"1024 elements", list(1024, "z"), 2*1024 + 1, api.OK},
		{"1025 elements", list(1025, "z"), 0, api.ErrMany},
		{"2048 elements", list(2048, "z"), 0, api.ErrMany},
		{"65535 bytes", list(3, most), 2*3 + 65535, api.OK},
		{"65536 bytes", list(3, long), 0, api.ErrLong},
		{"65536 bytes first", []string{long, "a"}, 0, api.ErrLong},
		{"65536 bytes in 1024 elements", list(1024, long), 0, api.ErrLong},
		{"65536 bytes in 1025 elements", list(1025, long), 0, api.ErrMany},
	}
	for _, c := range cases {
		if got, e := quill.Rows(c.l...); len(got) != c.size || e != c.want {
			t.Errorf("%s: %d bytes, %v", c.name, len(got), e)
		}
	}
}

// P1.1: Rows does not change its list.
func TestRowsLeavesList(t *testing.T) {
	l := []string{"b", "", "a", "spare"}
	quill.Rows(l[:3]...)
	if !slices.Equal(l, []string{"b", "", "a", "spare"}) {
		t.Errorf("the list became %q", l)
	}
}

// P1.2: Scan.Num.
func TestScanNumDecodes(t *testing.T) {
	const text = "\xf1\xe2\xd3\xc4\xb5\xa6\x97\x88\x79"
	wants := []uint64{
		0xf1, 0xf1e2, 0xf1e2d3, 0xf1e2d3c4, 0xf1e2d3c4b5, 0xf1e2d3c4b5a6,
		0xf1e2d3c4b5a697, 0xf1e2d3c4b5a69788,
	}
	for i, want := range wants {
		size := i + 1
		n, next := quill.Scan{Text: text}.Num(size)
		if n != want || next != (quill.Scan{Text: text, At: size}) {
			t.Errorf("Num(%d) = %x, %#v", size, n, next)
		}
	}
	if n, next := (quill.Scan{Text: text, At: 1}).Num(8); n != 0xe2d3c4b5a6978879 || next != (quill.Scan{Text: text, At: 9}) {
		t.Errorf("Num(8) from 1 = %x, %#v", n, next)
	}
	if n, next := (quill.Scan{Text: text, At: 8}).Num(1); n != 0x79 || next != (quill.Scan{Text: text, At: 9}) {
		t.Errorf("Num(1) from 8 = %x, %#v", n, next)
	}
}

// P1.2: the errors of Scan.Num.
func TestScanNumFails(t *testing.T) {
	cases := []struct {
		at, size int
		want     api.Errno
	}{
		{math.MinInt, 1, api.ErrArg},
		{-1, 1, api.ErrArg},
		{-1, 9, api.ErrArg},
		{4, 1, api.ErrArg},
		{4, 8, api.ErrArg},
		{math.MaxInt, 8, api.ErrArg},
		{3, 1, api.ErrShort},
		{3, 8, api.ErrShort},
		{2, 2, api.ErrShort},
		{0, 4, api.ErrShort},
		{0, 8, api.ErrShort},
	}
	for _, at := range []int{0, 1, 3} {
		for _, size := range wrongSizes {
			cases = append(cases, struct {
				at, size int
				want     api.Errno
			}{at, size, api.ErrArg})
		}
	}
	for _, c := range cases {
		n, next := quill.Scan{Text: "abc", At: c.at}.Num(c.size)
		if n != 0 || next != (quill.Scan{Text: "abc", At: c.at, Bad: c.want}) {
			t.Errorf("Num(%d) from %d = %d, %#v, not %v", c.size, c.at, n, next, c.want)
		}
	}
	if n, next := (quill.Scan{}).Num(1); n != 0 || next != (quill.Scan{Bad: api.ErrShort}) {
		t.Errorf("Num of a zero Scan = %d, %#v", n, next)
	}
	if n, next := (quill.Scan{}).Num(0); n != 0 || next != (quill.Scan{Bad: api.ErrArg}) {
		t.Errorf("Num of size 0 of a zero Scan = %d, %#v", n, next)
	}
}

// badScans returns Scans that have a Bad already.
func badScans() []quill.Scan {
	var l []quill.Scan
	for _, bad := range []api.Errno{-1, api.ErrNil, api.ErrArg, api.ErrShort, api.ErrForm, api.ErrMany, 1000} {
		for _, at := range []int{-1, 0, 1, 4, 5, 6} {
			l = append(l, quill.Scan{Text: "\x00\x02abc", At: at, Bad: bad})
		}
	}
	return l
}

// P1.2: a Scan that already has a Bad decodes nothing.
func TestScanWithBadStays(t *testing.T) {
	for _, s := range badScans() {
		for _, size := range []int{-1, 0, 1, 8, 9} {
			if n, next := s.Num(size); n != 0 || next != s {
				t.Errorf("%#v: Num(%d) = %d, %#v", s, size, n, next)
			}
		}
		if row, next := s.Row(); row != "" || next != s {
			t.Errorf("%#v: Row = %q, %#v", s, row, next)
		}
	}
}

// P1.2: Scan.Row.
func TestScanRowDecodes(t *testing.T) {
	most := strings.Repeat("m", 65535)
	cases := []struct {
		text string
		at   int
		want string
		next int
	}{
		{"\x00\x02ab", 0, "ab", 4},
		{"\x00\x02abc", 0, "ab", 4},
		{"\x00\x00", 0, "", 2},
		{"\x00\x00\x00", 0, "", 2},
		{"x\x00\x01\x00", 1, "\x00", 4},
		{"\x01\x01" + most[:257], 0, most[:257], 259},
		{"\xff\xff" + most, 0, most, 65537},
	}
	for _, c := range cases {
		row, next := quill.Scan{Text: c.text, At: c.at}.Row()
		if row != c.want || next != (quill.Scan{Text: c.text, At: c.next}) {
			t.Errorf("%.9q: Row of %d bytes, to %d, %v", c.text, len(row), next.At, next.Bad)
		}
	}
}

// P1.2: the errors of Scan.Row.
func TestScanRowFails(t *testing.T) {
	cases := []struct {
		text string
		at   int
		want api.Errno
	}{
		{"\x00\x01a", math.MinInt, api.ErrArg},
		{"\x00\x01a", -1, api.ErrArg},
		{"\x00\x01a", 4, api.ErrArg},
		{"\x00\x01a", math.MaxInt, api.ErrArg},
		{"", 1, api.ErrArg},
		{"", 0, api.ErrShort},
		{"\x00", 0, api.ErrShort},
		{"\x00\x01a", 3, api.ErrShort},
		{"\x00\x01a", 2, api.ErrShort},
		{"\x00\x01a", 1, api.ErrShort},
		{"\x00\x01", 0, api.ErrShort},
		{"\x00\x05abcd", 0, api.ErrShort},
		{"\x01\x00abcd", 0, api.ErrShort},
		{"\xff\xff" + strings.Repeat("m", 65534), 0, api.ErrShort},
	}
	for _, c := range cases {
		row, next := quill.Scan{Text: c.text, At: c.at}.Row()
		if row != "" || next != (quill.Scan{Text: c.text, At: c.at, Bad: c.want}) {
			t.Errorf("%.9q: Row from %d = %.9q, %d, %v, not %v", c.text, c.at, row, next.At, next.Bad, c.want)
		}
	}
}

// P1.3: Scan.Rest.
func TestRest(t *testing.T) {
	cases := []struct {
		text string
		at   int
		want string
	}{
		{"abc", 0, "abc"},
		{"abc", 1, "bc"},
		{"abc", 2, "c"},
		{"abc", 3, ""},
		{"abc", 4, ""},
		{"abc", math.MaxInt, ""},
		{"abc", -1, ""},
		{"abc", math.MinInt, ""},
		{"", 0, ""},
		{"", 1, ""},
	}
	for _, c := range cases {
		if got := (quill.Scan{Text: c.text, At: c.at}).Rest(); got != c.want {
			t.Errorf("Rest of %q from %d = %q", c.text, c.at, got)
		}
	}
	for _, s := range badScans() {
		if got := s.Rest(); got != "" {
			t.Errorf("Rest of %#v = %q", s, got)
		}
	}
}

// P1.3: Scan.End.
func TestEnd(t *testing.T) {
	cases := []struct {
		text string
		at   int
		want api.Errno
	}{
		{"abc", 3, api.OK},
		{"", 0, api.OK},
		{"abc", 0, api.ErrForm},
		{"abc", 2, api.ErrForm},
		{"abc", 4, api.ErrArg},
		{"abc", math.MaxInt, api.ErrArg},
		{"abc", -1, api.ErrArg},
		{"abc", math.MinInt, api.ErrArg},
		{"", 1, api.ErrArg},
		{"", -1, api.ErrArg},
	}
	for _, c := range cases {
		if got := (quill.Scan{Text: c.text, At: c.at}).End(); got != c.want {
			t.Errorf("End of %q at %d = %v, not %v", c.text, c.at, got, c.want)
		}
	}
	for _, s := range badScans() {
		if got := s.End(); got != s.Bad {
			t.Errorf("End of %#v = %v", s, got)
		}
	}
}

// P1.4: Split.
func TestSplit(t *testing.T) {
	const most = 1024
	rows := strings.Repeat("\x00\x01a", most)
	cases := []struct {
		name, s string
		want    []string
		bad     api.Errno
	}{
		{"nothing", "", nil, api.OK},
		{"one row", "\x00\x02ab", []string{"ab"}, api.OK},
		{"an empty row", "\x00\x00", []string{""}, api.OK},
		{"three rows", "\x00\x01a\x00\x00\x00\x03bcd", []string{"a", "", "bcd"}, api.OK},
		{"in the length", "\x00", nil, api.ErrShort},
		{"behind the length", "\x00\x01", nil, api.ErrShort},
		{"in a row", "\x00\x05ab", nil, api.ErrShort},
		{"in the length of a second row", "\x00\x01a\x00", nil, api.ErrShort},
		{"in a second row", "\x00\x01a\x00\x02b", nil, api.ErrShort},
		{"1024 rows", rows, slices.Repeat([]string{"a"}, most), api.OK},
		{"1025 rows", rows + "\x00\x00", nil, api.ErrMany},
		{"1025 rows, the last one short", rows + "\x00", nil, api.ErrMany},
		{"1026 rows, the last one short", rows + "\x00\x00\x00", nil, api.ErrMany},
		{"1024 rows, the last one short", rows[:len(rows)-1], nil, api.ErrShort},
		{"1024 rows, the first one long", "\xff\xff" + rows, nil, api.ErrShort},
	}
	for _, c := range cases {
		if got, e := quill.Split(c.s); !slices.Equal(got, c.want) || e != c.bad {
			t.Errorf("%s: %d rows, %v, not %d, %v", c.name, len(got), e, len(c.want), c.bad)
		}
	}
}

// P1.4, P1.5: Split accepts exactly the texts that Rows returns.
func TestSplitOfAllShortTexts(t *testing.T) {
	var visit func(s string, left int)
	visit = func(s string, left int) {
		l, e := quill.Split(s)
		switch b, _ := quill.Rows(l...); {
		case e == api.OK && string(b) != s:
			t.Fatalf("Split(%q) = %q", s, l)
		case e != api.OK && (e != api.ErrShort || len(l) != 0):
			t.Fatalf("Split(%q) = %q, %v", s, l, e)
		case e != api.OK && whole(s):
			t.Fatalf("Split(%q) = %v, though it consists of rows", s, e)
		}
		if left == 0 {
			return
		}
		for _, c := range []string{"\x00", "\x01", "\x02", "\x03"} {
			visit(s+c, left-1)
		}
	}
	visit("", 8)
}

// whole reports whether a text whose rows are shorter than 256 bytes consists of rows.
func whole(s string) bool {
	for len(s) >= 2 && s[0] == 0 && len(s) >= 2+int(s[1]) {
		s = s[2+int(s[1]):]
	}
	return s == ""
}

// P1.5: a number is decoded as what it was encoded from.
func TestNumbersComeBack(t *testing.T) {
	next := noise(1)
	for range 2000 {
		n, size := next(), int(next()%8)+1
		b := quill.Num([]byte("head"), size, n)
		got, end := quill.Scan{Text: string(b), At: 4}.Num(size)
		if want := n << (64 - 8*size) >> (64 - 8*size); got != want || end.End() != api.OK {
			t.Fatalf("%x of size %d came back as %x, %#v", n, size, got, end)
		}
	}
}

// someRows returns rows of many lengths.
func someRows(next func() uint64) []string {
	l := make([]string, next()%12)
	for i := range l {
		row := make([]byte, next()%700)
		for j := range row {
			row[j] = byte(next())
		}
		l[i] = string(row)
	}
	return l
}

// P1.5: rows are decoded as what they were encoded from, and join as their lists do.
func TestRowsComeBack(t *testing.T) {
	next := noise(2)
	for range 300 {
		a, b := someRows(next), someRows(next)
		ea, _ := quill.Rows(a...)
		eb, _ := quill.Rows(b...)
		both, e := quill.Rows(slices.Concat(a, b)...)
		if e != api.OK || string(both) != string(ea)+string(eb) {
			t.Fatalf("%d and %d rows together: %v", len(a), len(b), e)
		}
		if l, e := quill.Split(string(both)); e != api.OK || !slices.Equal(l, slices.Concat(a, b)) {
			t.Fatalf("%d and %d rows came back as %d, %v", len(a), len(b), len(l), e)
		}
	}
}

// P1.5: 1024 rows of 65535 bytes, the greatest list, come back.
func TestGreatestListComesBack(t *testing.T) {
	l := slices.Repeat([]string{strings.Repeat("m", 65535)}, 1024)
	b, e := quill.Rows(l...)
	if e != api.OK || len(b) != 1024*65537 {
		t.Fatalf("%d bytes, %v", len(b), e)
	}
	if got, e := quill.Split(string(b)); e != api.OK || !slices.Equal(got, l) {
		t.Errorf("%d rows, %v", len(got), e)
	}
}

// P1.1, P1.2, P1.5: what Num and Row append one after the other is decoded in that order.
func TestMixedComesBack(t *testing.T) {
	b := quill.Num(nil, 1, 200)
	b, _ = quill.Row(b, "first")
	b = quill.Num(b, 8, 1<<63)
	b, _ = quill.Row(b, "")
	b = append(b, "rest"...)

	s := quill.Scan{Text: string(b)}
	small, s := s.Num(1)
	first, s := s.Row()
	great, s := s.Num(8)
	empty, s := s.Row()
	got := fmt.Sprintf("%d %q %d %q %q", small, first, great, empty, s.Rest())
	if want := `200 "first" 9223372036854775808 "" "rest"`; got != want || s.End() != api.ErrForm {
		t.Errorf("decoded %s, %v, not %s", got, s.End(), want)
	}
}
