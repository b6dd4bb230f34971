package entry_test

import (
	"fmt"
	"math"
	"reflect"
	"runtime"
	"slices"
	"strings"
	"testing"

	"padlock/api"
	"padlock/entry"
)

type (
	list  = []any
	pairs = []entry.Pair
)

// Types of the kinds of values that are other types all the same.
type (
	otherBool  bool
	otherNum   uint64
	otherText  string
	otherList  []any
	otherPairs []entry.Pair
	otherPair  entry.Pair
)

var (
	most = strings.Repeat("m", 65535)
	long = strings.Repeat("m", 65536)
)

// noValues are of no kind of values.
func noValues() []any {
	text, num, l := "text", uint64(1), list{}
	return []any{
		0, 5, -1, int8(1), int16(1), int32(1), int64(1), 'a', uint(1), uint8(1), uint16(1), uint32(1), uintptr(1),
		1.0, float32(1), 1i, api.OK, api.ErrKind, fmt.Errorf("error"),
		&text, &num, &l, (*string)(nil), (*uint64)(nil), (*bool)(nil), (*entry.Pair)(nil), (error)(api.ErrNil),
		[]byte("text"), []byte(nil), []string{}, []string{"a"}, []uint64{1}, []bool{true}, []int{}, []list{}, []pairs{}, []error{},
		[0]any{}, [1]any{}, [2]entry.Pair{}, []otherPair{}, []*entry.Pair{}, [][]byte{},
		entry.Pair{}, entry.Pair{Name: "a", V: true}, &entry.Pair{}, struct{}{}, struct{ V any }{},
		map[string]any{}, map[string]any(nil), func() {}, (func())(nil), make(chan any), (chan any)(nil),
		otherBool(true), otherNum(1), otherText("text"), otherList{}, otherList(nil), otherPairs{}, otherPairs(nil), otherPair{},
	}
}

// nested returns v in n lists.
func nested(n int, v any) any {
	for range n {
		v = list{v}
	}
	return v
}

// nestedPairs returns v in n lists of pairs.
func nestedPairs(n int, v any) any {
	for range n {
		v = pairs{{Name: "a", V: v}}
	}
	return v
}

// named returns n pairs of increasing Names.
func named(n int, v any) pairs {
	l := make(pairs, n)
	for i := range l {
		l[i] = entry.Pair{Name: fmt.Sprintf("%03d", i), V: v}
	}
	return l
}

// spine returns a list whose last element is a list, and so on, each of the most
// elements, as deep as may be.
func spine() any {
	var v any = "end"
	for i := range 4 {
		if i%2 == 0 {
			l := named(64, uint64(i))
			l[63].V = v
			v = l
		} else {
			l := slices.Repeat(list{i > 1}, 64)
			l[63] = v
			v = l
		}
	}
	return v
}

// loops are lists that contain themselves.
func loops() []any {
	one, many, pair, both := list{nil}, make(list, 64), pairs{{Name: "a"}}, pairs{{Name: "a"}, {Name: "b"}}
	one[0] = one
	for i := range many {
		many[i] = many
	}
	pair[0].V = pair
	both[0].V, both[1].V = list{both}, list{list{both}, one}
	return []any{one, many, pair, both}
}

// valid are values and their encodings, no two of them alike.
var valid = []struct {
	v    any
	want string
}{
	{list{nil, true}, "\x05\x02\x00\x02"}, // the chapter's example
	{nil, "\x00"},
	{false, "\x01"},
	{true, "\x02"},
	{uint64(0), "\x03\x00\x00\x00\x00\x00\x00\x00\x00"},
	{uint64(1), "\x03\x00\x00\x00\x00\x00\x00\x00\x01"},
	{uint64(258), "\x03\x00\x00\x00\x00\x00\x00\x01\x02"},
	{uint64(0xf1e2d3c4b5a69788), "\x03\xf1\xe2\xd3\xc4\xb5\xa6\x97\x88"},
	{uint64(1 << 63), "\x03\x80\x00\x00\x00\x00\x00\x00\x00"},
	{uint64(math.MaxUint64), "\x03\xff\xff\xff\xff\xff\xff\xff\xff"},
	{"", "\x04\x00\x00"},
	{"a", "\x04\x00\x01a"},
	{"xy", "\x04\x00\x02xy"},
	{"\x00", "\x04\x00\x01\x00"},
	{"\x00\xff\xc3", "\x04\x00\x03\x00\xff\xc3"},
	{"ä漢", "\x04\x00\x05ä漢"},
	{most[:255], "\x04\x00\xff" + most[:255]},
	{most[:256], "\x04\x01\x00" + most[:256]},
	{most, "\x04\xff\xff" + most},
	{list{}, "\x05\x00"},
	{list{nil}, "\x05\x01\x00"},
	{list{nil, nil}, "\x05\x02\x00\x00"},
	{list{list{}}, "\x05\x01\x05\x00"},
	{list{list{}, list{}}, "\x05\x02\x05\x00\x05\x00"},
	{list{list{nil}}, "\x05\x01\x05\x01\x00"},
	{list{list{nil}, nil}, "\x05\x02\x05\x01\x00\x00"},
	{list{list{nil, nil}}, "\x05\x01\x05\x02\x00\x00"},
	{list{"ab"}, "\x05\x01\x04\x00\x02ab"},
	{list{"a", "b"}, "\x05\x02\x04\x00\x01a\x04\x00\x01b"},
	{list{"b", "a", "b"}, "\x05\x03\x04\x00\x01b\x04\x00\x01a\x04\x00\x01b"},
	{list{false, uint64(7), "", list{true}, pairs{}}, "\x05\x05\x01\x03\x00\x00\x00\x00\x00\x00\x00\x07\x04\x00\x00\x05\x01\x02\x06\x00"},
	{list{pairs{{Name: "a"}}}, "\x05\x01\x06\x01\x00\x01a\x00"},
	{pairs{}, "\x06\x00"},
	{pairs{{}}, "\x06\x01\x00\x00\x00"},
	{pairs{{Name: "a"}}, "\x06\x01\x00\x01a\x00"},
	{pairs{{Name: "a", V: "a"}}, "\x06\x01\x00\x01a\x04\x00\x01a"},
	{pairs{{Name: "b"}}, "\x06\x01\x00\x01b\x00"},
	{pairs{{}, {Name: "\x00"}}, "\x06\x02\x00\x00\x00\x00\x01\x00\x00"},
	{pairs{{Name: "a", V: true}, {Name: "b", V: false}}, "\x06\x02\x00\x01a\x02\x00\x01b\x01"},
	{pairs{{Name: "a"}, {Name: "aa"}, {Name: "ab"}, {Name: "b"}}, "\x06\x04\x00\x01a\x00\x00\x02aa\x00\x00\x02ab\x00\x00\x01b\x00"},
	{pairs{{Name: "Z"}, {Name: "a"}, {Name: "\x7f"}, {Name: "\x80"}, {Name: "ä"}, {Name: "\xff"}}, "\x06\x06\x00\x01Z\x00\x00\x01a\x00\x00\x01\x7f\x00\x00\x01\x80\x00\x00\x02ä\x00\x00\x01\xff\x00"},
	{pairs{{Name: "a", V: list{uint64(258), "xy", false}}, {Name: "b", V: nil}}, "\x06\x02\x00\x01a\x05\x03\x03\x00\x00\x00\x00\x00\x00\x01\x02\x04\x00\x02xy\x01\x00\x01b\x00"},
	{pairs{{Name: "a", V: pairs{{Name: "a", V: pairs{}}}}}, "\x06\x01\x00\x01a\x06\x01\x00\x01a\x06\x00"},
	{pairs{{Name: most[1:]}, {Name: most, V: most}}, "\x06\x02\xff\xfe" + most[1:] + "\x00\xff\xff" + most + "\x04\xff\xff" + most},
	{make(list, 64), "\x05\x40" + strings.Repeat("\x00", 64)},
	{slices.Repeat(list{most}, 64), "\x05\x40" + strings.Repeat("\x04\xff\xff"+most, 64)},
	{list{list{list{list{}}}}, "\x05\x01\x05\x01\x05\x01\x05\x00"},
	{list{list{list{list{"x"}}}}, "\x05\x01\x05\x01\x05\x01\x05\x01\x04\x00\x01x"},
	{list{list{list{pairs{}}}}, "\x05\x01\x05\x01\x05\x01\x06\x00"},
	{list{list{list{pairs{{V: true}}}}}, "\x05\x01\x05\x01\x05\x01\x06\x01\x00\x00\x02"},
	{list{pairs{{Name: "a", V: list{make(list, 64), nil}}}}, "\x05\x01\x06\x01\x00\x01a\x05\x02\x05\x40" + strings.Repeat("\x00", 64) + "\x00"},
	{nestedPairs(4, nil), strings.Repeat("\x06\x01\x00\x01a", 4) + "\x00"},
	{named(64, nil), encoded(named(64, nil))},
	{spine(), encoded(spine())},
}

// wrong are things that are no valid values, of several errors the first one
// first in their lists, or named first in the chapter.
var wrong = []struct {
	name string
	v    any
	want api.Errno
}{
	{"a string of 65536 bytes", long, api.ErrLong},
	{"a string of 65537 bytes", long + "m", api.ErrLong},
	{"a string of 131072 bytes", long + long, api.ErrLong},
	{"a list of 65 elements", make(list, 65), api.ErrLong},
	{"a list of 66 elements", make(list, 66), api.ErrLong},
	{"a list of 256 elements", make(list, 256), api.ErrLong},
	{"a list of 257 elements", make(list, 257), api.ErrLong},
	{"a list of 65536 elements", make(list, 65536), api.ErrLong},
	{"65 pairs", named(65, nil), api.ErrLong},
	{"256 pairs", named(256, nil), api.ErrLong},
	{"a Name of 65536 bytes", pairs{{Name: long}}, api.ErrLong},
	{"a second Name of 65536 bytes", pairs{{Name: "a"}, {Name: long}}, api.ErrLong},
	{"equal Names", pairs{{Name: "a"}, {Name: "a"}}, api.ErrForm},
	{"empty Names", pairs{{}, {}}, api.ErrForm},
	{"equal Names with others between", pairs{{Name: "a"}, {Name: "b"}, {Name: "a"}}, api.ErrForm},
	{"equal Names at the end", pairs{{Name: "a"}, {Name: "b"}, {Name: "b"}}, api.ErrForm},
	{"equal Names of the most bytes", pairs{{Name: most}, {Name: most}}, api.ErrForm},
	{"falling Names", pairs{{Name: "b"}, {Name: "a"}}, api.ErrForm},
	{"an empty Name behind another", pairs{{Name: "\x00"}, {}}, api.ErrForm},
	{"a Name behind one that begins with it", pairs{{Name: "ab"}, {Name: "a"}}, api.ErrForm},
	{"a long Name behind one that begins with it", pairs{{Name: most}, {Name: most[1:]}}, api.ErrForm},
	{"a Name that is less as a byte", pairs{{Name: "\x80"}, {Name: "\x7f"}}, api.ErrForm},
	{"a Name that is less by its first byte", pairs{{Name: "b"}, {Name: "aa"}}, api.ErrForm},
	{"Names that fall as texts and not as words", pairs{{Name: "a"}, {Name: "B"}}, api.ErrForm},
	{"a list that is too deep", nested(5, true), api.ErrMany},
	{"an empty list that is too deep", nested(4, list{}), api.ErrMany},
	{"a list of nil that is too deep", nested(4, list(nil)), api.ErrMany},
	{"no pairs that are too deep", nested(4, pairs{}), api.ErrMany},
	{"pairs of nil that are too deep", nested(4, pairs(nil)), api.ErrMany},
	{"pairs that are too deep", nestedPairs(5, true), api.ErrMany},
	{"a list in pairs that is too deep", nestedPairs(4, list{}), api.ErrMany},
	{"a list that is by far too deep", nested(1000, true), api.ErrMany},
	{"a list that is too deep at the end", list{nil, pairs{{Name: "a"}, {Name: "b", V: nested(3, "x")}}}, api.ErrMany},

	{"a list, too deep and too long", nested(4, make(list, 65)), api.ErrMany},
	{"pairs, too deep and too many", nested(4, named(65, nil)), api.ErrMany},
	{"a list, too deep and of no values", nested(4, list{5}), api.ErrMany},
	{"pairs, too deep and of long Names", nested(4, pairs{{Name: long}}), api.ErrMany},
	{"pairs, too deep and of equal Names", nested(4, pairs{{}, {}}), api.ErrMany},
	{"a list, too long and of no values", slices.Repeat(list{5}, 65), api.ErrLong},
	{"a list, too long and of lists that are too deep", slices.Repeat(list{nested(4, nil)}, 65), api.ErrLong},
	{"pairs, too many and of equal Names", make(pairs, 65), api.ErrLong},
	{"pairs, too many and of no values", named(65, 5), api.ErrLong},
	{"pairs, too many and too deep", named(65, nested(4, nil)), api.ErrLong},
	{"a long Name that is less", pairs{{Name: "z"}, {Name: long}}, api.ErrLong},
	{"a long Name that is equal", pairs{{Name: most}, {Name: long}, {Name: long}}, api.ErrLong},
	{"a long Name of no value", pairs{{Name: long, V: 5}}, api.ErrLong},
	{"an equal Name of no value", pairs{{Name: "a"}, {Name: "a", V: 5}}, api.ErrForm},
	{"an equal Name of a long string", pairs{{Name: "a"}, {Name: "a", V: long}}, api.ErrForm},
	{"an equal Name of a list that is too deep", pairs{{Name: "a"}, {Name: "a", V: nested(4, nil)}}, api.ErrForm},
	{"no value ahead of an equal Name", pairs{{Name: "a", V: 5}, {Name: "a"}}, api.ErrKind},
	{"no value ahead of a long Name", pairs{{Name: "a", V: 5}, {Name: long}}, api.ErrKind},
	{"a falling Name ahead of a long one", pairs{{Name: "b"}, {Name: "a"}, {Name: long}}, api.ErrForm},
	{"a falling Name ahead of no value", pairs{{Name: "b"}, {Name: "a"}, {Name: "c", V: 5}}, api.ErrForm},
	{"a long string ahead of a falling Name", pairs{{Name: "b", V: long}, {Name: "a"}}, api.ErrLong},
	{"a long string ahead of no value", list{long, 5}, api.ErrLong},
	{"no value ahead of a long string", list{5, long}, api.ErrKind},
	{"no value ahead of a list that is too deep", list{5, nested(4, nil)}, api.ErrKind},
	{"a list that is too deep ahead of no value", list{nested(4, nil), 5}, api.ErrMany},
	{"a list that is too long ahead of one that is too deep", list{make(list, 65), nested(4, nil)}, api.ErrLong},
	{"a list that is too deep ahead of one that is too long", list{nested(4, nil), make(list, 65)}, api.ErrMany},
	{"equal Names within the first element", list{pairs{{}, {}}, long}, api.ErrForm},
	{"a long string within the first element", list{list{list{nil, long}}, pairs{{}, {}}}, api.ErrLong},
}

// row is the row of a text of at most 65535 bytes.
func row(s string) string { return string([]byte{byte(len(s) / 256), byte(len(s) % 256)}) + s }

// encoded is the chapter's definition of the encoding of a valid value.
func encoded(v any) string {
	switch v := v.(type) {
	case bool:
		if v {
			return "\x02"
		}
		return "\x01"
	case uint64:
		s := ""
		for range 8 {
			s = string([]byte{byte(v % 256)}) + s
			v /= 256
		}
		return "\x03" + s
	case string:
		return "\x04" + row(v)
	case list:
		s := []byte{5, byte(len(v))}
		for _, element := range v {
			s = append(s, encoded(element)...)
		}
		return string(s)
	case pairs:
		s := []byte{6, byte(len(v))}
		for _, p := range v {
			s = append(s, row(p.Name)+encoded(p.V)...)
		}
		return string(s)
	}
	return "\x00"
}

// open is a list whose elements are not all read yet.
type open struct {
	pairs bool
	left  int
	names []string
}

// errorOf is the chapter's definition of the error of Take: it reads s from the
// left, with a stack of the lists that are open.
func errorOf(s string) api.Errno {
	var stack []*open
	for at, begun := 0, false; ; begun = true {
		for len(stack) > 0 && stack[len(stack)-1].left == 0 {
			stack = stack[:len(stack)-1]
		}
		if begun && len(stack) == 0 {
			if at < len(s) {
				return api.ErrForm
			}
			return api.OK
		}
		if len(stack) > 0 {
			top := stack[len(stack)-1]
			top.left--
			if top.pairs {
				if len(s)-at < 2 || len(s)-at < 2+int(s[at])*256+int(s[at+1]) {
					return api.ErrShort
				}
				end := at + 2 + int(s[at])*256 + int(s[at+1])
				top.names = append(top.names, s[at+2:end])
				if n := len(top.names); n > 1 && top.names[n-1] <= top.names[n-2] {
					return api.ErrForm
				}
				at = end
			}
		}
		if at == len(s) {
			return api.ErrShort
		}
		kind := s[at]
		at++
		switch {
		case kind > 6:
			return api.ErrKind
		case kind >= 5 && len(stack) == 4:
			return api.ErrMany
		case kind >= 5 && at == len(s):
			return api.ErrShort
		case kind >= 5 && s[at] > 64:
			return api.ErrLong
		case kind >= 5:
			stack = append(stack, &open{pairs: kind == 6, left: int(s[at])})
			at++
		case kind == 4 && (len(s)-at < 2 || len(s)-at < 2+int(s[at])*256+int(s[at+1])):
			return api.ErrShort
		case kind == 4:
			at += 2 + int(s[at])*256 + int(s[at+1])
		case kind == 3 && len(s)-at < 8:
			return api.ErrShort
		case kind == 3:
			at += 8
		}
	}
}

// noise returns a function that returns numbers of no pattern, the same in every run.
func noise(seed uint64) func() uint64 {
	return func() uint64 {
		seed ^= seed << 13
		seed ^= seed >> 7
		seed ^= seed << 17
		return seed
	}
}

// someText returns a text of up to n bytes, some of them alike.
func someText(next func() uint64, n uint64) string {
	s := make([]byte, next()>>8%(n+1))
	for i := range s {
		s[i] = byte(next() >> 16)
		if next()>>8%2 == 0 {
			s[i] = 'a' + s[i]%2
		}
	}
	return string(s)
}

// some returns a valid value of no pattern, for a depth.
func some(next func() uint64, depth int) any {
	kinds := uint64(8)
	if depth == 4 {
		kinds = 5
	}
	switch next() >> 8 % kinds {
	case 0:
		return nil
	case 1:
		return next()>>8%2 == 0
	case 2:
		return next() >> (next() >> 8 % 64)
	case 3, 4:
		return someText(next, 9)
	case 5, 6:
		l := make(list, next()>>8%6)
		for i := range l {
			l[i] = some(next, depth+1)
		}
		return l
	}
	names := make([]string, next()>>8%6)
	for i := range names {
		names[i] = someText(next, 4)
	}
	slices.Sort(names)
	l := make(pairs, 0, 6)
	for _, name := range slices.Compact(names) {
		l = append(l, entry.Pair{Name: name, V: some(next, depth+1)})
	}
	return l
}

// fails fails the test if Check or Put of v does not return the error, or Same
// says that v is the same as itself.
func fails(t *testing.T, name string, v any, want api.Errno) {
	t.Helper()
	if got := entry.Check(v); got != want {
		t.Errorf("%s: Check is %v, not %v", name, got, want)
	}
	if b, got := entry.Put(v); len(b) != 0 || got != want {
		t.Errorf("%s: Put is %d bytes, %v, not %v", name, len(b), got, want)
	}
	if entry.Same(v, v) || entry.Same(v, nil) || entry.Same(nil, v) {
		t.Errorf("%s: Same as itself, or nil", name)
	}
}

// P10.1, P10.2: valid values, and their encodings.
func TestCheckAndPut(t *testing.T) {
	for _, c := range valid {
		if e := entry.Check(c.v); e != api.OK {
			t.Errorf("Check of %.40q is %v", c.want, e)
		}
		if b, e := entry.Put(c.v); string(b) != c.want || e != api.OK {
			t.Errorf("Put is %.40q, %v, not %.40q", b, e, c.want)
		}
	}
}

// P10.1, P10.2, P10.4: a list of nil is one without elements.
func TestListsOfNil(t *testing.T) {
	cases := []struct {
		v    any
		want string
	}{
		{list(nil), "\x05\x00"},
		{pairs(nil), "\x06\x00"},
		{list{list(nil), pairs(nil)}, "\x05\x02\x05\x00\x06\x00"},
		{pairs{{Name: "a", V: list(nil)}, {Name: "b", V: pairs(nil)}}, "\x06\x02\x00\x01a\x05\x00\x00\x01b\x06\x00"},
		{nested(3, list(nil)), encoded(nested(3, list{}))},
		{nested(3, pairs(nil)), encoded(nested(3, pairs{}))},
	}
	for _, c := range cases {
		if e := entry.Check(c.v); e != api.OK {
			t.Errorf("Check of %#v is %v", c.v, e)
		}
		if b, e := entry.Put(c.v); string(b) != c.want || e != api.OK {
			t.Errorf("Put of %#v is %q, %v, not %q", c.v, b, e, c.want)
		}
		v, _ := entry.Take(c.want)
		if !entry.Same(c.v, v) || !entry.Same(v, c.v) || !entry.Same(c.v, c.v) {
			t.Errorf("%#v is not the same as %#v", c.v, v)
		}
	}
}

// P10.1, P10.2, P10.4: the errors of what is no valid value, of several the first.
func TestErrors(t *testing.T) {
	for _, c := range wrong {
		fails(t, c.name, c.v, c.want)
	}
}

// P10.1, P10.2, P10.4: things that are no values, alone and in lists.
func TestNoValues(t *testing.T) {
	for _, v := range noValues() {
		name := fmt.Sprintf("%T", v)
		fails(t, name, v, api.ErrKind)
		for n := 1; n <= 4; n++ {
			fails(t, name+" in lists", nested(n, v), api.ErrKind)
			fails(t, name+" in pairs", nestedPairs(n, v), api.ErrKind)
		}
		fails(t, name+" in too many lists", nested(5, v), api.ErrMany)
		fails(t, name+" at the end of a list", list{nil, true, uint64(1), "a", list{}, pairs{{}}, v}, api.ErrKind)
		fails(t, name+" at the end of pairs", pairs{{Name: "a"}, {Name: "b", V: list{list{}}}, {Name: "c", V: v}}, api.ErrKind)
	}
}

// P10.1, P10.2: errors of things of no depth, and of lists, at each depth.
func TestErrorsAtEachDepth(t *testing.T) {
	long65, equal := make(list, 65), pairs{{Name: "a"}, {Name: "a"}}
	for n := range 8 {
		text, count, order := api.ErrLong, api.ErrLong, api.ErrForm
		if n > 3 {
			count, order = api.ErrMany, api.ErrMany
		}
		if n > 4 {
			text = api.ErrMany
		}
		for _, in := range []func(int, any) any{nested, nestedPairs} {
			fails(t, "a long string", in(n, long), text)
			fails(t, "a long list", in(n, long65), count)
			fails(t, "equal Names", in(n, equal), order)
		}
		e := api.OK
		if n > 4 {
			e = api.ErrMany
		}
		if got := entry.Check(nested(n, "x")); got != e {
			t.Errorf("Check of a string in %d lists is %v", n, got)
		}
		if got := entry.Check(nestedPairs(n, most)); got != e {
			t.Errorf("Check of a string in %d pairs is %v", n, got)
		}
	}
}

// P10.1, P10.2, P10.4: lists that contain themselves are too deep.
func TestLoops(t *testing.T) {
	for i, v := range loops() {
		fails(t, fmt.Sprintf("loop %d", i), v, api.ErrMany)
	}
}

// P10.1, P10.2: what lies beyond the length of a list is not looked at.
func TestBeyondTheLength(t *testing.T) {
	l := make(list, 65)
	l[64] = 5
	if b, e := entry.Put(l[:64]); string(b) != "\x05\x40"+strings.Repeat("\x00", 64) || e != api.OK {
		t.Errorf("Put is %q, %v", b, e)
	}
	p := pairs{{Name: "a", V: true}, {Name: "a", V: 5}}
	if b, e := entry.Put(p[:1]); string(b) != "\x06\x01\x00\x01a\x02" || e != api.OK {
		t.Errorf("Put is %q, %v", b, e)
	}
}

// P10.2: each result of Put is new.
func TestPutIsNew(t *testing.T) {
	for _, c := range valid {
		b, _ := entry.Put(c.v)
		for i := range b[:cap(b)] {
			b[:cap(b)][i] ^= 0xff
		}
		if again, _ := entry.Put(c.v); string(again) != c.want {
			t.Errorf("%.40q became %.40q", c.want, again)
		}
	}
}

// P10.3: Take of encodings.
func TestTake(t *testing.T) {
	for _, c := range valid {
		if v, e := entry.Take(c.want); !reflect.DeepEqual(v, c.v) || e != api.OK {
			t.Errorf("Take(%.40q) = %.60v, %v", c.want, v, e)
		}
	}
}

// P10.3: an empty list is a list without elements, not nil.
func TestTakeOfEmptyLists(t *testing.T) {
	if v, e := entry.Take("\x05\x00"); e != api.OK || v == nil || v.(list) == nil {
		t.Errorf("the empty list is %#v, %v", v, e)
	}
	if v, e := entry.Take("\x06\x00"); e != api.OK || v == nil || v.(pairs) == nil {
		t.Errorf("no pairs are %#v, %v", v, e)
	}
}

// P10.3: the errors of Take.
func TestTakeFails(t *testing.T) {
	deep, nils := strings.Repeat("\x05\x01", 4), strings.Repeat("\x00", 65)
	cases := []struct {
		s    string
		want api.Errno
	}{
		// Bytes are missing.
		{"", api.ErrShort}, {"\x03", api.ErrShort}, {"\x03\x01", api.ErrShort}, {"\x03\x00\x00\x00\x00\x00\x00\x00", api.ErrShort},
		{"\x04", api.ErrShort}, {"\x04\x00", api.ErrShort}, {"\x04\x00\x01", api.ErrShort}, {"\x04\x00\x05abcd", api.ErrShort}, {"\x04\x01\x00" + most[:255], api.ErrShort}, {"\x04\xff\xff" + most[1:], api.ErrShort},
		{"\x05", api.ErrShort}, {"\x05\x01", api.ErrShort}, {"\x05\x02\x00", api.ErrShort}, {"\x05\x40" + nils[2:], api.ErrShort}, {"\x05\x01\x05", api.ErrShort}, {deep, api.ErrShort}, {deep + "\x03", api.ErrShort},
		{"\x06", api.ErrShort}, {"\x06\x01", api.ErrShort}, {"\x06\x01\x00", api.ErrShort}, {"\x06\x01\x00\x01", api.ErrShort}, {"\x06\x01\x00\x01a", api.ErrShort}, {"\x06\x02\x00\x01a\x00", api.ErrShort}, {"\x06\x40", api.ErrShort},
		// No kind.
		{"\x07", api.ErrKind}, {"\x08\x00", api.ErrKind}, {"\xff", api.ErrKind}, {"\x05\x01\x07", api.ErrKind}, {"\x06\x01\x00\x00\x80", api.ErrKind}, {deep + "\x07", api.ErrKind},
		// Too deep, before the number of elements is read.
		{deep + "\x05", api.ErrMany}, {deep + "\x06", api.ErrMany}, {deep + "\x05\x00", api.ErrMany}, {deep + "\x06\x00", api.ErrMany}, {deep + "\x05\x41", api.ErrMany}, {deep + "\x05\xff", api.ErrMany}, {deep + "\x05\x01\x07", api.ErrMany},
		{strings.Repeat("\x06\x01\x00\x00", 4) + "\x06", api.ErrMany}, {strings.Repeat("\x06\x01\x00\x00", 4) + "\x05", api.ErrMany}, {strings.Repeat("\x05\x01", 1<<16), api.ErrMany}, {strings.Repeat("\x05\x02\x00", 5), api.ErrMany},
		// Too many elements, before they are read.
		{"\x05\x41", api.ErrLong}, {"\x06\x41", api.ErrLong}, {"\x05\x80", api.ErrLong}, {"\x05\xff", api.ErrLong}, {"\x06\xff", api.ErrLong}, {"\x05\x41" + nils, api.ErrLong}, {"\x05\x41\x07", api.ErrLong}, {"\x06\x41\x00\x00\x07", api.ErrLong},
		{"\x05\x01\x05\x41", api.ErrLong}, {"\x06\x01\x00\x01a\x06\x41", api.ErrLong}, {"\x05\x01\x05\x01\x05\x01\x06\x41", api.ErrLong},
		// Names that are equal or fall, before what belongs to them is read.
		{"\x06\x02\x00\x01a\x00\x00\x01a", api.ErrForm}, {"\x06\x02\x00\x01a\x00\x00\x01a\x00", api.ErrForm}, {"\x06\x02\x00\x01a\x00\x00\x01a\x07", api.ErrForm}, {"\x06\x02\x00\x01b\x00\x00\x01a\x00", api.ErrForm},
		{"\x06\x02\x00\x02ab\x00\x00\x01a\x00", api.ErrForm}, {"\x06\x02\x00\x00\x00\x00\x00\x00", api.ErrForm}, {"\x06\x02\x00\x01\x80\x00\x00\x01\x7f\x00", api.ErrForm}, {"\x06\x03\x00\x01a\x00\x00\x01b\x00\x00\x01b", api.ErrForm}, {"\x06\x03\x00\x01a\x00\x00\x01c\x00\x00\x01b", api.ErrForm},
		{"\x05\x01\x06\x02\x00\x01a\x00\x00\x01a", api.ErrForm}, {"\x06\x02\x00\x01a\x06\x02\x00\x01b\x00\x00\x01a", api.ErrForm},
		// A Name is looked at when all of it is there.
		{"\x06\x02\x00\x01b\x00\x00\x02a", api.ErrShort}, {"\x06\x02\x00\x01b\x00\x00", api.ErrShort}, {"\x06\x02\x00\x01b\x00\x00\x01", api.ErrShort},
		// An error in a list, ahead of bytes that are missing, and of other errors.
		{"\x05\x40\x07", api.ErrKind}, {"\x05\x02\x07\x03", api.ErrKind}, {"\x05\x02\x05\x41\x03", api.ErrLong}, {"\x05\x03\x05\x01\x07\x05\x41", api.ErrKind}, {"\x06\x40\x00\x01a\x00\x00\x01a", api.ErrForm}, {"\x06\x40\x00\x01a\x07", api.ErrKind}, {"\x05\x40" + deep, api.ErrMany},
		{"\x05\x02\x04\x00\x05abc\x07", api.ErrShort}, {"\x05\x02\x03\x07\x07", api.ErrShort}, {"\x05\x02\x07\x00\x00", api.ErrKind},
		// Bytes remain.
		{"\x00\x00", api.ErrForm}, {"\x01\x07", api.ErrForm}, {"\x02\x03", api.ErrForm}, {"\x03\x00\x00\x00\x00\x00\x00\x00\x00\x00", api.ErrForm}, {"\x04\x00\x00a", api.ErrForm}, {"\x04\x00\x01ab", api.ErrForm},
		{"\x05\x00\x00", api.ErrForm}, {"\x06\x00\x00", api.ErrForm}, {"\x05\x01\x00\x00", api.ErrForm}, {"\x05\x40" + nils, api.ErrForm}, {"\x06\x01\x00\x01a\x00\x00", api.ErrForm}, {deep + "\x00\x00", api.ErrForm}, {"\x00" + most, api.ErrForm},
	}
	for _, c := range cases {
		if v, e := entry.Take(c.s); v != nil || e != c.want {
			t.Errorf("Take(%.40q) = %v, %v, not %v", c.s, v, e, c.want)
		}
	}
}

// P10.3: a first byte greater than 6, alone and in lists.
func TestTakeOfEachKind(t *testing.T) {
	for kind := 7; kind < 256; kind++ {
		for _, before := range []string{"", "\x05\x01", "\x05\x02\x00", "\x06\x01\x00\x01a", "\x05\x01\x05\x01\x05\x01\x05\x01"} {
			for _, behind := range []string{"", "\x00", "\x00\x00\x00\x00\x00\x00\x00\x00"} {
				s := before + string([]byte{byte(kind)}) + behind
				if v, e := entry.Take(s); v != nil || e != api.ErrKind {
					t.Errorf("Take(%q) = %v, %v", s, v, e)
				}
			}
		}
	}
}

// P10.3: Take of bytes that end anywhere in a value, or go on behind it.
func TestTakeOfBeginnings(t *testing.T) {
	for _, c := range valid {
		for end := range c.want {
			if end > 300 && len(c.want)-end > 300 && end%1999 > 0 {
				continue
			}
			if v, e := entry.Take(c.want[:end]); v != nil || e != api.ErrShort {
				t.Fatalf("Take of %d bytes of %.40q = %v, %v", end, c.want, v, e)
			}
		}
		for _, behind := range []string{"\x00", "\x07", "\xff", c.want} {
			if v, e := entry.Take(c.want + behind); v != nil || e != api.ErrForm {
				t.Errorf("Take of %.40q and more = %v, %v", c.want, v, e)
			}
		}
	}
}

// agrees fails the test if Take of s is not what the chapter's definition says,
// or returns a value with another encoding.
func agrees(t *testing.T, s string) {
	t.Helper()
	v, e := entry.Take(s)
	if want := errorOf(s); e != want {
		t.Fatalf("Take(%q) is %v, not %v", s, e, want)
	}
	if e != api.OK && v != nil {
		t.Fatalf("Take(%q) = %v, %v", s, v, e)
	}
	if e != api.OK {
		return
	}
	if b, bad := entry.Put(v); encoded(v) != s || string(b) != s || bad != api.OK {
		t.Fatalf("Take(%q) = %v, which is %q, %v", s, v, b, bad)
	}
}

// P10.3, P10.7: Take of all short texts of some bytes.
func TestTakeOfAllShortTexts(t *testing.T) {
	var visit func(s string, left int, bytes string)
	visit = func(s string, left int, bytes string) {
		agrees(t, s)
		for i := range len(bytes) {
			if left > 0 {
				visit(s+bytes[i:i+1], left-1, bytes)
			}
		}
	}
	visit("", 6, "\x00\x01\x02\x04\x05\x06\x07")
	visit("", 11, "\x01\x05\x06")
	visit("\x06\x02\x00", 8, "\x00\x01\x02")
}

// P10.3, P10.7: Take of encodings in which bytes were changed, cut out or laid in.
func TestTakeOfChanged(t *testing.T) {
	next := noise(4)
	for range 40000 {
		s := []byte(encoded(some(next, 0)))
		for range next() >> 8 % 4 {
			at := int(next() >> 8 % uint64(len(s)+1))
			c := byte(next()>>8) & byte(next()>>8|7)
			if next()>>8%4 > 0 {
				c %= 8
			}
			switch next() >> 8 % 3 {
			case 0:
				s = slices.Insert(s, at, c)
			case 1:
				s = slices.Delete(s, min(at, len(s)), min(at+1, len(s)))
			case 2:
				s = append(s[:at:at], append([]byte{c}, s[min(at+1, len(s)):]...)...)
			}
		}
		agrees(t, string(s))
	}
}

// P10.3: each result of Take is new, and so is each list in it.
func TestTakeIsNew(t *testing.T) {
	s := "\x05\x03\x05\x01\x00\x06\x01\x00\x01a\x05\x00\x05\x01\x00"
	v, _ := entry.Take(s)
	l := v.(list)
	first, second, third := l[0].(list), l[1].(pairs), l[2].(list)
	first[0] = "changed"
	_ = append(first, "more", "and more")
	_ = append(second, entry.Pair{Name: "more"})
	_ = append(second[0].V.(list), "more")
	_ = append(l, "more", "and more")
	if third[0] != nil || len(second[0].V.(list)) != 0 {
		t.Errorf("a change of one list changed another one: %v", l)
	}
	if again, e := entry.Take(s); !reflect.DeepEqual(again, list{list{nil}, pairs{{Name: "a", V: list{}}}, list{nil}}) || e != api.OK {
		t.Errorf("Take once more = %v, %v", again, e)
	}
}

// P10.4: Same of all pairs of values.
func TestSame(t *testing.T) {
	for i, a := range valid {
		for j, b := range valid {
			if got := entry.Same(a.v, b.v); got != (i == j) {
				t.Errorf("Same of %.40q and %.40q is %t", a.want, b.want, got)
			}
		}
		if again, _ := entry.Take(a.want); !entry.Same(a.v, again) || !entry.Same(again, a.v) {
			t.Errorf("%.40q is not the same as itself", a.want)
		}
	}
}

// P10.4: Same of an empty list and nil, and of lists and pairs of no elements.
func TestSameOfEmptyLists(t *testing.T) {
	cases := []struct {
		a, b any
		want bool
	}{
		{list{}, list(nil), true}, {pairs{}, pairs(nil), true}, {list{list{}}, list{list(nil)}, true}, {pairs{{V: pairs{}}}, pairs{{V: pairs(nil)}}, true}, {make(list, 0, 5), list(nil), true},
		{list{}, pairs{}, false}, {list(nil), pairs(nil), false}, {list{}, pairs(nil), false}, {list(nil), pairs{}, false}, {list{list{}}, list{pairs{}}, false}, {pairs{{V: list{}}}, pairs{{V: pairs{}}}, false},
		{nil, list{}, false}, {nil, list(nil), false}, {nil, pairs{}, false}, {nil, pairs(nil), false}, {list{nil}, list{list(nil)}, false}, {nil, false, false}, {nil, uint64(0), false}, {nil, "", false}, {"", list{}, false}, {false, uint64(0), false},
	}
	for _, c := range cases {
		if entry.Same(c.a, c.b) != c.want || entry.Same(c.b, c.a) != c.want {
			t.Errorf("Same of %#v and %#v is not %t", c.a, c.b, c.want)
		}
	}
}

// P10.4: Same of values that are not valid, and of others.
func TestSameOfWrong(t *testing.T) {
	var all []any
	for _, c := range wrong {
		all = append(all, c.v)
	}
	all = append(append(all, noValues()...), loops()...)
	for _, a := range all {
		for _, b := range all {
			if entry.Same(a, b) {
				t.Errorf("Same of %T and %T", a, b)
			}
		}
		for _, b := range []any{nil, true, uint64(1), uint64(5), "", "text", list{}, pairs{}, list{nil}} {
			if entry.Same(a, b) || entry.Same(b, a) {
				t.Errorf("Same of %T and %v", a, b)
			}
		}
	}
}

// P10.4, P10.7: values of no pattern are the same exactly if their encodings are.
func TestSameOfSome(t *testing.T) {
	next := noise(5)
	var all []any
	for range 600 {
		all = append(all, some(next, 2))
	}
	for _, a := range all {
		for _, b := range all {
			if got := entry.Same(a, b); got != (encoded(a) == encoded(b)) {
				t.Fatalf("Same of %#v and %#v is %t", a, b, got)
			}
		}
	}
}

// P10.5: Text and Num.
func TestTextAndNum(t *testing.T) {
	for _, s := range []string{"", "a", "\x00\xff", most, long} {
		if got, is := entry.Text(s); got != s || !is {
			t.Errorf("Text(%.9q) = %.9q, %t", s, got, is)
		}
		if got, is := entry.Num(s); got != 0 || is {
			t.Errorf("Num(%.9q) = %d, %t", s, got, is)
		}
	}
	for _, n := range []uint64{0, 1, 258, 1 << 63, math.MaxUint64} {
		if got, is := entry.Num(n); got != n || !is {
			t.Errorf("Num(%d) = %d, %t", n, got, is)
		}
		if got, is := entry.Text(n); got != "" || is {
			t.Errorf("Text(%d) = %q, %t", n, got, is)
		}
	}
	others := append(noValues(), nil, false, true, list{}, list{"a"}, list{uint64(1)}, list(nil), pairs{}, pairs{{Name: "a", V: "a"}}, pairs(nil))
	for _, v := range append(others, loops()...) {
		if got, is := entry.Text(v); got != "" || is {
			t.Errorf("Text(%T) = %q, %t", v, got, is)
		}
		if got, is := entry.Num(v); got != 0 || is {
			t.Errorf("Num(%T) = %d, %t", v, got, is)
		}
	}
}

// P10.5: Find.
func TestFind(t *testing.T) {
	some := pairs{{Name: "", V: "empty"}, {Name: "a", V: uint64(1)}, {Name: "ab", V: nil}, {Name: "b", V: list{}}, {Name: "c", V: pairs{{Name: "d", V: true}}}, {Name: most, V: false}}
	twice := pairs{{Name: "b", V: uint64(1)}, {Name: "a", V: uint64(2)}, {Name: "a", V: uint64(3)}, {Name: "b", V: nil}, {Name: long, V: 5}, {Name: "none", V: 1.5}}
	cases := []struct {
		v    any
		name string
		want any
		is   bool
	}{
		{some, "", "empty", true}, {some, "a", uint64(1), true}, {some, "ab", nil, true}, {some, "b", list{}, true}, {some, "c", pairs{{Name: "d", V: true}}, true}, {some, most, false, true},
		{some, "d", nil, false}, {some, "A", nil, false}, {some, "aa", nil, false}, {some, "abc", nil, false}, {some, " a", nil, false}, {some, "a\x00", nil, false}, {some, long, nil, false}, {some[1:], "", nil, false}, {some[:1], "a", nil, false},
		// In pairs that are not valid.
		{twice, "b", uint64(1), true}, {twice, "a", uint64(2), true}, {twice, long, 5, true}, {twice, "none", 1.5, true}, {twice, "c", nil, false}, {named(65, true), "064", true, true}, {named(65, true), "065", nil, false}, {make(pairs, 2000), "", nil, true},
		// In things that are no pairs.
		{pairs{}, "", nil, false}, {pairs(nil), "", nil, false}, {nil, "", nil, false}, {true, "", nil, false}, {uint64(1), "1", nil, false}, {"a", "a", nil, false}, {list{some}, "a", nil, false}, {list{"a"}, "a", nil, false}, {list{entry.Pair{Name: "a"}}, "a", nil, false},
		{entry.Pair{Name: "a", V: true}, "a", nil, false}, {&entry.Pair{Name: "a", V: true}, "a", nil, false}, {&some, "a", nil, false}, {otherPairs(some), "a", nil, false}, {[]*entry.Pair{{Name: "a"}}, "a", nil, false}, {[1]entry.Pair{{Name: "a"}}, "a", nil, false}, {map[string]any{"a": true}, "a", nil, false}, {5, "5", nil, false},
	}
	for _, c := range cases {
		if v, is := entry.Find(c.v, c.name); !reflect.DeepEqual(v, c.want) || is != c.is {
			t.Errorf("Find(%.60v, %.9q) = %v, %t", c.v, c.name, v, is)
		}
	}
	for _, v := range noValues() {
		for _, name := range []string{"", "a"} {
			if got, is := entry.Find(v, name); got != nil || is {
				t.Errorf("Find in %T = %v, %t", v, got, is)
			}
		}
	}
}

// P10.5: what Find returns is as it was, whatever it is.
func TestFindOfEachKind(t *testing.T) {
	for _, c := range valid {
		if v, is := entry.Find(pairs{{Name: "a", V: c.v}}, "a"); !reflect.DeepEqual(v, c.v) || !is {
			t.Errorf("Find of %.40q = %.60v, %t", c.want, v, is)
		}
	}
	for _, c := range wrong {
		if v, is := entry.Find(pairs{{Name: "a", V: c.v}}, "a"); !reflect.DeepEqual(v, c.v) || !is {
			t.Errorf("Find of %s = %.60v, %t", c.name, v, is)
		}
	}
	for _, want := range append(noValues(), list(nil), pairs(nil), list{list(nil), pairs(nil)}) {
		v, is := entry.Find(pairs{{Name: "a", V: want}}, "a")
		if !is || fmt.Sprintf("%T %#v", v, v) != fmt.Sprintf("%T %#v", want, want) {
			t.Errorf("Find of %#v = %#v, %t", want, v, is)
		}
	}
	endless, more := make(list, 5000), make(pairs, 5000)
	for i := range endless {
		endless[i], more[i].V = endless, more
	}
	for i, l := range append(loops(), endless, more) {
		if v, is := entry.Find(pairs{{Name: "a", V: l}}, "a"); reflect.TypeOf(v) != reflect.TypeOf(l) || !is {
			t.Errorf("Find of loop %d = %T, %t", i, v, is)
		}
	}
}

// P10.5: a list that Find returns is new, and passes on nothing beyond its length.
func TestFindIsNew(t *testing.T) {
	made := func() pairs {
		l := list{true, list{"in", pairs{{Name: "b", V: list{uint64(1)}}}}, "beyond"}
		p := pairs{{Name: "c", V: list{"x"}}, {Name: "beyond"}}
		return pairs{{Name: "a", V: l[:2]}, {Name: "b", V: p[:1]}, {Name: "c", V: make(list, 100)}, {Name: "d", V: nested(3, make(list, 1))}, {Name: "e", V: spine()}, {Name: "f", V: named(64, list{pairs{{Name: "x"}}})[:1]}}
	}
	v := made()
	for _, name := range []string{"a", "b", "c", "d", "e", "f"} {
		got, _ := entry.Find(v, name)
		overwrite(t, got)
	}
	if want := made(); !reflect.DeepEqual(v, want) || v[0].V.(list)[:3][2] != "beyond" || v[1].V.(pairs)[:2][1].Name != "beyond" {
		t.Errorf("a change of what Find returned changed its argument: %v", v)
	}
}

// overwrite changes all elements of v and of its lists, and fails the test if
// anything is kept beyond the length of one.
func overwrite(t *testing.T, v any) {
	t.Helper()
	switch l := v.(type) {
	case list:
		for i, element := range l[:cap(l)] {
			if i >= len(l) && element != nil {
				t.Errorf("%v lies beyond %v", element, l)
			}
			overwrite(t, element)
			l[:cap(l)][i] = "overwritten"
		}
	case pairs:
		for i, p := range l[:cap(l)] {
			if i >= len(l) && (p.Name != "" || p.V != nil) {
				t.Errorf("%v lies beyond %v", p, l)
			}
			overwrite(t, p.V)
			l[:cap(l)][i] = entry.Pair{Name: "overwritten"}
		}
	}
}

// panicOf returns what a call panics with, and nil if it does not.
func panicOf(call func()) (with any) {
	defer func() { with = recover() }()
	call()
	return nil
}

// P10.6: MustText and MustNum return what they are asked for.
func TestMust(t *testing.T) {
	for _, s := range []string{"", "a", "\x00\xff", most, long} {
		if got := entry.MustText(s); got != s {
			t.Errorf("MustText(%.9q) = %.9q", s, got)
		}
	}
	for _, n := range []uint64{0, 1, 258, 1 << 63, math.MaxUint64} {
		if got := entry.MustNum(n); got != n {
			t.Errorf("MustNum(%d) = %d", n, got)
		}
	}
}

// P10.6: MustText and MustNum panic by a type assertion for everything else.
func TestMustPanics(t *testing.T) {
	all := append(noValues(), nil, false, true, list{}, list{"a"}, list{uint64(1)}, list(nil), pairs{}, pairs{{Name: "a", V: "a"}}, pairs(nil))
	panics := func(name string, v any, call func()) {
		if with, is := panicOf(call).(*runtime.TypeAssertionError); !is {
			t.Errorf("%s(%T) panics with %v", name, v, with)
		}
	}
	for _, v := range append(all, uint64(0), uint64(1)) {
		panics("MustText", v, func() { entry.MustText(v) })
	}
	for _, v := range append(all, "", "1") {
		panics("MustNum", v, func() { entry.MustNum(v) })
	}
}

// P10.7: values of no pattern come back, and each has an encoding of its own.
func TestValuesComeBack(t *testing.T) {
	next := noise(6)
	known := map[string]any{}
	for range 20000 {
		v := some(next, 0)
		b, e := entry.Put(v)
		if e != api.OK || string(b) != encoded(v) {
			t.Fatalf("Put of %#v is %q, %v", v, b, e)
		}
		back, e := entry.Take(string(b))
		if e != api.OK || !reflect.DeepEqual(back, v) || !entry.Same(back, v) {
			t.Fatalf("%#v came back as %#v, %v", v, back, e)
		}
		if other, is := known[string(b)]; is && !reflect.DeepEqual(other, v) {
			t.Fatalf("%#v and %#v are both %q", v, other, b)
		}
		known[string(b)] = v
	}
}

// P10.1, P10.2, P10.3, P10.4, P10.7: a value of as many elements as there may be.
func TestGreatestComesBack(t *testing.T) {
	var v any = uint64(7)
	for range 4 {
		v = slices.Repeat(list{v}, 64)
	}
	if e := entry.Check(v); e != api.OK {
		t.Fatalf("Check is %v", e)
	}
	b, e := entry.Put(v)
	if want := 2*(1+64+64*64+64*64*64) + 9*64*64*64*64; len(b) != want || e != api.OK {
		t.Fatalf("%d bytes, not %d, %v", len(b), want, e)
	}
	back, e := entry.Take(string(b))
	if e != api.OK || !entry.Same(v, back) {
		t.Errorf("it came back as another one, %v", e)
	}
}

// No call changes its arguments.
func TestArgumentsStay(t *testing.T) {
	made := func() pairs {
		l := pairs{{Name: "b", V: list{nil, list{"x"}}}, {Name: "c", V: pairs{{Name: "d", V: list(nil)}}}, {Name: "a", V: uint64(1)}}
		return l[:2]
	}
	v, want := made(), made()
	entry.Check(v)
	entry.Put(v)
	entry.Same(v, made())
	entry.Same(made(), v)
	entry.Text(v)
	entry.Num(v)
	entry.Find(v, "b")
	entry.Find(v, "c")
	panicOf(func() { entry.MustText(v) })
	panicOf(func() { entry.MustNum(v) })
	if !reflect.DeepEqual(v[:3], want[:3]) {
		t.Errorf("%v became %v", want[:3], v[:3])
	}
}
