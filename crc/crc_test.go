package crc_test

import (
	"math"
	"strings"
	"testing"

	"padlock/api"
	"padlock/crc"
)

// regs are registers with single bits, many bits, and none.
var regs = []uint32{0, 1, 0x80, 0x100, 0x80000000, 0x12345678, 0xdeadbeef, 0xedb88320, 0x7fffffff, 0xffffffff}

// maxSkip is the greatest number of zero bytes that Skip counts.
const maxSkip = 1 << 30

// text returns n bytes of no pattern, the same for the same seed.
func text(n int, seed uint32) string {
	b := make([]byte, n)
	for i := range b {
		seed = seed*1664525 + 1013904223
		b[i] = byte(seed >> 24)
	}
	return string(b)
}

// divided returns the remainder of a text's bits, the lowest bit of a byte
// first, by the checksum's polynomial: the definition that has no register
// shifted to the right.
func divided(s string) uint32 {
	var bits []byte
	for i := range len(s) {
		for j := range 8 {
			bits = append(bits, s[i]>>j&1)
		}
	}
	bits = append(bits, make([]byte, 32)...)
	for i := range 32 {
		bits[i] ^= 1
	}
	const poly uint64 = 0x104c11db7
	for i := range len(bits) - 32 {
		if bits[i] == 0 {
			continue
		}
		for j := range 33 {
			bits[i+j] ^= byte(poly >> (32 - j) & 1)
		}
	}
	var sum uint32
	for i, bit := range bits[len(bits)-32:] {
		sum |= uint32(bit) << i
	}
	return ^sum
}

// P2.1: Step.
func TestStep(t *testing.T) {
	cases := []struct {
		reg  uint32
		b    byte
		want uint32
	}{
		{0, 0, 0},
		{0, 1, 0x77073096},
		{0, 2, 0xee0e612c},
		{0, 128, 0xedb88320},
		{0x80, 0, 0xedb88320},
		{0, 255, 0x2d02ef8d},
		{0xff, 0, 0x2d02ef8d},
		{0xff, 255, 0},
		{1, 0, 0x77073096},
		{0x80000000, 0, 0x800000},
		{0x12345600, 0, 0x123456},
		{0x12345678, 0x78, 0x123456},
		{0xdeadbeef, 0x42, 0xa8b972eb},
		{0xffffffff, 0, 0x2dfd1072},
		{0xffffffff, 0x61, 0x174841bc},
	}
	for _, c := range cases {
		if got := crc.Step(c.reg, c.b); got != c.want {
			t.Errorf("Step(%x, %x) = %x, not %x", c.reg, c.b, got, c.want)
		}
	}
}

// P2.1: Step of all bytes, shift by shift.
func TestStepShifts(t *testing.T) {
	for _, reg := range regs {
		for b := range 256 {
			want := reg ^ uint32(b)
			for i := 0; i < 8; i++ {
				out := want & 1
				want = want>>1 ^ out*0xedb88320
			}
			if got := crc.Step(reg, byte(b)); got != want {
				t.Fatalf("Step(%x, %x) = %x, not %x", reg, b, got, want)
			}
		}
	}
}

// P2.1: Feed.
func TestFeed(t *testing.T) {
	if crc.Start != 0xffffffff {
		t.Errorf("Start is %x", crc.Start)
	}
	cases := []struct {
		reg  uint32
		s    string
		want uint32
	}{
		{0, "", 0},
		{0x12345678, "", 0x12345678},
		{crc.Start, "", 0xffffffff},
		{crc.Start, "123456789", 0x340bc6d9},
		{0xdeadbeef, "\x42", 0xa8b972eb},
		{0, "\x00\x00\x80", 0xedb88320},
	}
	for _, c := range cases {
		if got := crc.Feed(c.reg, c.s); got != c.want {
			t.Errorf("Feed(%x, %q) = %x, not %x", c.reg, c.s, got, c.want)
		}
	}
}

// P2.1: Feed steps by bytes, not by runes, in order.
func TestFeedSteps(t *testing.T) {
	for _, s := range []string{"ab", "ba", "\x00a", "a\x00", "é€", "\xff\xfe\x80", "\xc3", text(300, 1)} {
		for _, reg := range regs {
			want := reg
			for _, b := range []byte(s) {
				want = crc.Step(want, b)
			}
			if got := crc.Feed(reg, s); got != want {
				t.Errorf("Feed(%x, %q) = %x, not %x", reg, s, got, want)
			}
		}
	}
}

// P2.2: Sum.
func TestSum(t *testing.T) {
	cases := []struct {
		s    string
		want uint32
	}{
		{"", 0},
		{"123456789", 0xcbf43926},
		{"a", 0xe8b7be43},
		{"abc", 0x352441c2},
		{"message digest", 0x20159d7f},
		{"abcdefghijklmnopqrstuvwxyz", 0x4c2750bd},
		{"The quick brown fox jumps over the lazy dog", 0x414fa339},
		{"\x00", 0xd202ef8d},
		{"\x00\x00\x00\x00", 0x2144df1c},
		{"\x00a", 0x7b6c4331},
		{"\xff", 0xff000000},
		{"\xff\xff\xff\xff", 0xffffffff},
		{"é€", 0x2447225d},
		{strings.Repeat("\x00", 32), 0x190a55ad},
		{strings.Repeat("\xff", 32), 0xff6cab0b},
	}
	for _, c := range cases {
		if got := crc.Sum(c.s); got != c.want {
			t.Errorf("Sum(%q) = %x, not %x", c.s, got, c.want)
		}
	}
}

// P2.2: Sum is a remainder, and the complement of Feed.
func TestSumDivides(t *testing.T) {
	for n := range 200 {
		s := text(n, uint32(n))
		if got, want := crc.Sum(s), divided(s); got != want {
			t.Fatalf("Sum(%q) = %x, not %x", s, got, want)
		}
		if got, want := crc.Sum(s), crc.Feed(0xffffffff, s)^0xffffffff; got != want {
			t.Fatalf("Sum(%q) = %x, but Feed says %x", s, got, want)
		}
	}
}

// P2.3: Skip.
func TestSkipFeedsZeros(t *testing.T) {
	for _, reg := range regs {
		want := reg
		for n := range 1500 {
			if got := crc.Skip(reg, n); got != want {
				t.Fatalf("Skip(%x, %d) = %x, not %x", reg, n, got, want)
			}
			want = crc.Step(want, 0)
		}
	}
	for _, n := range []int{65535, 65536, 65537, 1 << 20, 1<<20 + 12345} {
		zeros := string(make([]byte, n))
		for _, reg := range regs {
			if got, want := crc.Skip(reg, n), crc.Feed(reg, zeros); got != want {
				t.Errorf("Skip(%x, %d) = %x, not %x", reg, n, got, want)
			}
		}
	}
}

// P2.3: Skip of no bytes, and of fewer.
func TestSkipOfNone(t *testing.T) {
	for _, n := range []int{0, -1, -2, -3, -1000, -maxSkip, -maxSkip - 1, math.MinInt + 1, math.MinInt} {
		for _, reg := range regs {
			if got := crc.Skip(reg, n); got != reg {
				t.Errorf("Skip(%x, %d) = %x", reg, n, got)
			}
		}
	}
}

// P2.3: Skip of 2^30 bytes, of one fewer, and of more.
func TestSkipOfLimit(t *testing.T) {
	cases := []struct{ reg, before, at uint32 }{
		{0, 0, 0},
		{0xffffffff, 0x4af92266, 0xa49b3d4f},
		{0x80000000, 0x6f85b375, 0x20000000},
		{0x12345678, 0x56338b86, 0x048d159e},
	}
	for _, c := range cases {
		if got := crc.Skip(c.reg, maxSkip-1); got != c.before {
			t.Errorf("Skip(%x, 2^30 - 1) = %x, not %x", c.reg, got, c.before)
		}
		for _, n := range []int{maxSkip, maxSkip + 1, maxSkip + 2, 1 << 31, 1<<31 + 1, 1 << 32, 1<<32 + 5, 1 << 40, math.MaxInt - 1, math.MaxInt} {
			if got := crc.Skip(c.reg, n); got != c.at {
				t.Errorf("Skip(%x, %d) = %x, not %x", c.reg, n, got, c.at)
			}
		}
	}
}

// P2.3: two Skips are one by the sum of their lengths.
func TestSkipsAdd(t *testing.T) {
	lengths := []int{0, 1, 2, 255, 256, 4097, 99999, 1<<20 + 1, 1 << 28, 1 << 29}
	for _, reg := range regs {
		for _, n := range lengths {
			for _, m := range lengths {
				if got, want := crc.Skip(crc.Skip(reg, n), m), crc.Skip(reg, n+m); got != want {
					t.Fatalf("Skip(%x) by %d, then by %d = %x, not %x", reg, n, m, got, want)
				}
			}
		}
	}
}

// P2.4: Join of any numbers.
func TestJoinOfNumbers(t *testing.T) {
	lengths := []int{math.MinInt, -1, 0, 1, 5, 1000, maxSkip - 1, maxSkip, maxSkip + 1, math.MaxInt}
	for _, a := range regs {
		for _, b := range regs {
			for _, n := range lengths {
				if got, want := crc.Join(a, b, n), crc.Skip(a, n)^b; got != want {
					t.Fatalf("Join(%x, %x, %d) = %x, not %x", a, b, n, got, want)
				}
			}
		}
	}
	if got := crc.Join(1, 0, 1); got != 0x77073096 {
		t.Errorf("Join(1, 0, 1) = %x", got)
	}
	if got := crc.Join(0x12345678, 0x0f, -1); got != 0x12345677 {
		t.Errorf("Join of a negative length = %x", got)
	}
}

// P2.4: Join of a text's two parts, with an empty one on either side among them.
func TestJoinOfParts(t *testing.T) {
	for _, s := range []string{"", "a", "123456789", "\x00\x00\x00", "\xff\xff\xff\xff\xff", text(300, 7)} {
		for i := range len(s) + 1 {
			got := crc.Join(crc.Sum(s[:i]), crc.Sum(s[i:]), len(s)-i)
			if want := crc.Sum(s); got != want {
				t.Errorf("%q with %q = %x, not %x", s[:i], s[i:], got, want)
			}
		}
	}
	if got := crc.Join(crc.Sum("1234"), crc.Sum("56789"), 5); got != 0xcbf43926 {
		t.Errorf("1234 with 56789 = %x", got)
	}
}

// P2.4: Join of a long second text.
func TestJoinOfLongPart(t *testing.T) {
	head, tail := "head", text(1<<20+3, 9)
	if got, want := crc.Join(crc.Sum(head), crc.Sum(tail), len(tail)), crc.Sum(head+tail); got != want {
		t.Errorf("%x, not %x", got, want)
	}
}

// P2.5: Seal, and Open of what it returns.
func TestSeal(t *testing.T) {
	cases := []struct{ s, want string }{
		{"", "\x00\x00\x00\x00"},
		{"123456789", "123456789\xcb\xf4\x39\x26"},
		{"abc", "abc\x35\x24\x41\xc2"},
		{"\x00", "\x00\xd2\x02\xef\x8d"},
		{"\xff", "\xff\xff\x00\x00\x00"},
		{"é€", "é€\x24\x47\x22\x5d"},
	}
	for _, c := range cases {
		if got := crc.Seal(c.s); got != c.want {
			t.Errorf("Seal(%q) = %q, not %q", c.s, got, c.want)
		}
		if got, e := crc.Open(c.want); got != c.s || e != api.OK {
			t.Errorf("Open(%q) = %q, %v", c.want, got, e)
		}
	}
	for n := range 300 {
		s := text(n, uint32(n))
		if got, e := crc.Open(crc.Seal(s)); got != s || e != api.OK {
			t.Fatalf("Open of the sealed %q = %q, %v", s, got, e)
		}
		if twice, e := crc.Open(crc.Seal(crc.Seal(s))); twice != crc.Seal(s) || e != api.OK {
			t.Fatalf("Open of the twice sealed %q = %q, %v", s, twice, e)
		}
	}
}

// P2.5: the errors of Open.
func TestOpenFails(t *testing.T) {
	cases := []struct {
		s    string
		want api.Errno
	}{
		{"", api.ErrShort},
		{"\x00", api.ErrShort},
		{"\x00\x00", api.ErrShort},
		{"\x00\x00\x00", api.ErrShort},
		{"abc", api.ErrShort},
		{"\x00\x00\x00\x01", api.ErrSum},
		{"\x01\x00\x00\x00", api.ErrSum},
		{"\xff\xff\xff\xff", api.ErrSum},
		{"abcd", api.ErrSum},
		{"\x00\x00\x00\x00\x00", api.ErrSum},
		{"123456789\x26\x39\xf4\xcb", api.ErrSum}, // least significant byte first
		{"123456789\x34\x0b\xc6\xd9", api.ErrSum}, // Feed, not its complement
		{"123456789\xcb\xf4\x39\x26\x00", api.ErrSum},
		{"123456789\xcb\xf4\x39", api.ErrSum},
		{"\xcb\xf4\x39\x26123456789", api.ErrSum},
		{"123456789", api.ErrSum},
	}
	for _, c := range cases {
		if got, e := crc.Open(c.s); got != "" || e != c.want {
			t.Errorf("Open(%q) = %q, %v, not %v", c.s, got, e, c.want)
		}
	}
}

// P2.5, P2.6: a sealed text with one byte changed, at each place, to each other byte.
func TestOpenOfChangedByte(t *testing.T) {
	for _, s := range []string{"", "a", "123456789", "\x00\x00\x00\x00", strings.Repeat("\xff", 9), text(70, 3)} {
		sealed := crc.Seal(s)
		for i := range len(sealed) {
			for d := 1; d < 256; d++ {
				b := []byte(sealed)
				b[i] ^= byte(d)
				if got, e := crc.Open(string(b)); got != "" || e != api.ErrSum {
					t.Fatalf("%q with byte %d changed: %q, %v", sealed, i, got, e)
				}
			}
		}
	}
}

// P2.6: the Sum of three texts' exclusive or.
func TestSumOfThree(t *testing.T) {
	for n := range 200 {
		a, b, c := text(n, 1), text(n, 2), text(n, 3)
		mixed := make([]byte, n)
		for i := range mixed {
			mixed[i] = a[i] ^ b[i] ^ c[i]
		}
		if got, want := crc.Sum(string(mixed)), crc.Sum(a)^crc.Sum(b)^crc.Sum(c); got != want {
			t.Fatalf("three texts of %d bytes: %x, not %x", n, got, want)
		}
	}
}
