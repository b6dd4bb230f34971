package fnv_test

import (
	"math"
	"slices"
	"strings"
	"testing"

	"padlock/fnv"
)

// most is the greatest number of shards.
const most = 8

// wrongCounts are numbers of shards that nobody has.
var wrongCounts = []int{
	math.MinInt, math.MinInt + 1, -1 << 32, -9, -8, -1, 0,
	9, 10, 16, 64, 256, 257, 1 << 32, 1<<32 + 1, 1<<32 + 8, math.MaxInt,
}

// texts are texts with their Sums, and with their Shards among 1 to 8. Some of
// the numbers that the Shards come from have their highest bit set.
var texts = []struct {
	s      string
	sum    uint64
	shards [most]int
}{
	{"", 0xcbf29ce484222325, [most]int{0, 1, 2, 1, 1, 5, 3, 1}},
	{"a", 0xaf63dc4c8601ec8c, [most]int{0, 0, 1, 0, 4, 4, 5, 0}},
	{"b", 0xaf63df4c8601f1a5, [most]int{0, 1, 1, 1, 3, 1, 3, 1}},
	{"c", 0xaf63de4c8601eff2, [most]int{0, 0, 0, 2, 3, 0, 0, 6}},
	{"ab", 0x089c4407b545986a, [most]int{0, 1, 0, 1, 0, 3, 2, 5}},
	{"ba", 0x08a63307b54dd00c, [most]int{0, 1, 2, 3, 2, 5, 3, 3}},
	{"foo", 0xdcb27518fed9d577, [most]int{0, 1, 1, 3, 2, 1, 5, 7}},
	{"foobar", 0x85944171f73967e8, [most]int{0, 1, 1, 1, 3, 1, 2, 1}},
	{"hello", 0xa430d84680aabd0b, [most]int{0, 1, 2, 1, 3, 5, 6, 5}},
	{"\x00", 0xaf63bd4c8601b7df, [most]int{0, 1, 2, 3, 1, 5, 4, 3}},
	{"\x00\x00", 0x08328807b4eb6fed, [most]int{0, 0, 0, 2, 0, 0, 2, 2}},
	{"\xff", 0xaf64724c8602eb6e, [most]int{0, 0, 0, 2, 0, 0, 2, 2}},
	{"\x80", 0xaf643d4c8602915f, [most]int{0, 1, 1, 3, 4, 1, 0, 3}},
	{"a\x00", 0x089be207b544f1e4, [most]int{0, 1, 1, 3, 3, 1, 0, 3}},
	{"é€", 0xba582a10a52c31b7, [most]int{0, 1, 2, 3, 1, 5, 6, 7}},
	{"\xc3", 0xaf647e4c8602ffd2, [most]int{0, 0, 1, 2, 0, 4, 2, 6}},
	{"team/x", 0xde9798717d185ed3, [most]int{0, 0, 0, 2, 1, 0, 3, 2}},
	{"team/äpfel", 0xec0ee9fe86d5a08d, [most]int{0, 1, 0, 3, 3, 3, 6, 3}},
	{"a/x", 0xe620a9190468a333, [most]int{0, 0, 2, 2, 0, 2, 4, 2}},
	{"a/b/c", 0x9ef3e9bc4337feeb, [most]int{0, 1, 2, 3, 2, 5, 1, 7}},
	{"0123456789abcdef0123456789abcdef0123456789abcdef0123456789abcdef", 0xec631990456e2f45, [most]int{0, 1, 2, 1, 4, 5, 1, 5}},
}

// noise returns n numbers of no pattern, the same for the same seed.
func noise(n int, seed uint64) []uint64 {
	l := make([]uint64, n)
	for i := range l {
		seed ^= seed << 13
		seed ^= seed >> 7
		seed ^= seed << 17
		l[i] = seed
	}
	return l
}

// sums returns hashes with no bit, each single bit, all but one, all, the Sums
// of texts, and many of no pattern.
func sums() []uint64 {
	l := []uint64{0, math.MaxUint64, fnv.Start, 0xff, 0x100, 0x1b3, 0x100000001b3}
	for i := range 64 {
		l = append(l, 1<<i, ^uint64(1<<i))
	}
	for _, c := range texts {
		l = append(l, c.sum)
	}
	return append(l, noise(200, 11)...)
}

// added returns what Add should: the product as the sum of the factor's parts,
// which are 2^40 and 435.
func added(sum uint64, b byte) uint64 {
	low := sum&^0xff | (sum&0xff ^ uint64(b))
	return low<<40 + 256*low + 128*low + 32*low + 16*low + 2*low + low
}

// P3.1: Add.
func TestAdd(t *testing.T) {
	cases := []struct {
		sum  uint64
		b    byte
		want uint64
	}{
		{0, 0, 0},
		{0, 1, 0x100000001b3},
		{1, 0, 0x100000001b3},
		{1, 1, 0},
		{0, 255, 0xff000001b14d},
		{255, 255, 0},
		{256, 255, 0x1ff000003644d},
		{1 << 24, 0, 0x1b3000000},
		{1 << 63, 0, 1 << 63},
		{math.MaxUint64, 0, 0xfffffefffffffe4d},
		{math.MaxUint64, 255, 0xfffefffffffe4d00},
		{0x0123456789abcdef, 0xef, 0x9abbeeeeeeed5700},
		{0x0123456789abcdef, 0, 0x9abcddeeeeeeed1d},
		{fnv.Start, 0, 0xaf63bd4c8601b7df},
		{fnv.Start, 'a', 0xaf63dc4c8601ec8c},
	}
	for _, c := range cases {
		if got := fnv.Add(c.sum, c.b); got != c.want {
			t.Errorf("Add(%x, %x) = %x, not %x", c.sum, c.b, got, c.want)
		}
	}
}

// P3.1: Add of each byte.
func TestAddOfEachByte(t *testing.T) {
	for _, sum := range sums() {
		for b := range 256 {
			if got, want := fnv.Add(sum, byte(b)), added(sum, byte(b)); got != want {
				t.Fatalf("Add(%x, %x) = %x, not %x", sum, b, got, want)
			}
		}
	}
}

// P3.1: Sum, of the empty text too.
func TestSum(t *testing.T) {
	if fnv.Start != 0xcbf29ce484222325 {
		t.Errorf("Start is %x", fnv.Start)
	}
	for _, c := range texts {
		if got := fnv.Sum(c.s); got != c.sum {
			t.Errorf("Sum(%q) = %x, not %x", c.s, got, c.sum)
		}
	}
}

// P3.1: Sum adds bytes, not runes, in order.
func TestSumAdds(t *testing.T) {
	long := strings.Repeat("\x00a\xffé", 5000)
	for _, s := range []string{"", "ab", "ba", "\x00a", "a\x00", "é€", "\xff\xfe\x80", "\xc3", "\xed\xa0\x80", long} {
		want := uint64(0xcbf29ce484222325)
		for _, b := range []byte(s) {
			want = added(want, b)
		}
		if got := fnv.Sum(s); got != want {
			t.Errorf("Sum(%.20q) = %x, not %x", s, got, want)
		}
	}
}

// P3.2: Undo.
func TestUndo(t *testing.T) {
	cases := []struct {
		sum  uint64
		b    byte
		want uint64
	}{
		{0, 0, 0},
		{0, 1, 1},
		{0, 255, 255},
		{1, 0, 0xce965057aff6957b},
		{1, 1, 0xce965057aff6957a},
		{0x100000001b3, 0, 1},
		{0x100000001b3, 1, 0},
		{1 << 63, 0, 1 << 63},
		{math.MaxUint64, 0, 0x3169afa850096a85},
		{math.MaxUint64, 255, 0x3169afa850096a7a},
		{256, 255, 0x965057aff6957bff},
		{0xaf63dc4c8601ec8c, 'a', fnv.Start},
		{fnv.Start, 'a', 0x1d10331a6b696ba6},
	}
	for _, c := range cases {
		if got := fnv.Undo(c.sum, c.b); got != c.want {
			t.Errorf("Undo(%x, %x) = %x, not %x", c.sum, c.b, got, c.want)
		}
	}
}

// P3.2: Undo of Add, and Add of Undo, for each byte.
func TestUndoIsInverse(t *testing.T) {
	for _, sum := range sums() {
		for i := range 256 {
			b := byte(i)
			if got := fnv.Undo(fnv.Add(sum, b), b); got != sum {
				t.Fatalf("Undo of Add(%x, %x) = %x", sum, b, got)
			}
			if got := fnv.Add(fnv.Undo(sum, b), b); got != sum {
				t.Fatalf("Add of Undo(%x, %x) = %x", sum, b, got)
			}
		}
	}
}

// P3.2: Undo of a text's bytes, the last one first, leads back to Start.
func TestUndoOfText(t *testing.T) {
	for _, c := range texts {
		sum := fnv.Sum(c.s)
		for i := len(c.s) - 1; i >= 0; i-- {
			sum = fnv.Undo(sum, c.s[i])
			if want := fnv.Sum(c.s[:i]); sum != want {
				t.Fatalf("%q without the bytes from %d on = %x, not %x", c.s, i, sum, want)
			}
		}
	}
}

// P3.3: Shard.
func TestShard(t *testing.T) {
	for _, c := range texts {
		for i, want := range c.shards {
			if got := fnv.Shard(c.s, i+1); got != want {
				t.Errorf("Shard(%q, %d) = %d, not %d", c.s, i+1, got, want)
			}
		}
	}
	if got := fnv.Shard("a", 8); got != 0 {
		t.Errorf("Shard(a, 8) = %d", got)
	}
}

// mixed returns the number from which the Shards of s come.
func mixed(s string) uint64 {
	sum := fnv.Sum(s)
	return sum/(1<<32) ^ sum%(1<<32)
}

// P3.3: Shard of many texts.
func TestShardOfMany(t *testing.T) {
	for _, x := range noise(2000, 5) {
		s := string([]byte{byte(x), byte(x >> 8), byte(x >> 16), byte(x >> 24), byte(x >> 32)}[:1+x>>40%5])
		for n := 1; n <= most; n++ {
			if got, want := fnv.Shard(s, n), int(mixed(s)%uint64(n)); got != want {
				t.Fatalf("Shard(%q, %d) = %d, not %d", s, n, got, want)
			}
		}
	}
}

// P3.3: Shard among a number of shards that nobody has.
func TestShardOfWrongCount(t *testing.T) {
	for _, c := range texts {
		for _, n := range wrongCounts {
			if got := fnv.Shard(c.s, n); got != 0 {
				t.Errorf("Shard(%q, %d) = %d", c.s, n, got)
			}
		}
	}
}

// P3.4: Shards.
func TestShards(t *testing.T) {
	cases := []struct {
		n    int
		l    []string
		want []int
	}{
		{8, []string{"a"}, []int{0}},
		{8, []string{""}, []int{1}},
		{8, []string{"foo"}, []int{7}},
		{8, []string{"foo", "a"}, []int{0, 7}},
		{8, []string{"a", "foo"}, []int{0, 7}},
		{8, []string{"foo", "c", "hello", "ba", "\x00\x00", "b", "a"}, []int{0, 1, 2, 3, 5, 6, 7}},
		{8, []string{"a", "a", "a"}, []int{0}},
		{8, []string{"foo", "a", "foo", "a"}, []int{0, 7}},
		{8, []string{"foobar", "b", ""}, []int{1}},
		{7, []string{"é€", "a", "\x00", "b", "\xff", "a/b/c", "\x80"}, []int{0, 1, 2, 3, 4, 5, 6}},
		{5, []string{"a", "b"}, []int{3, 4}},
		{2, []string{"b", "a", "c"}, []int{0, 1}},
		{1, []string{"a", "b", "c"}, []int{0}},
	}
	for _, c := range cases {
		if got := fnv.Shards(c.n, c.l...); !slices.Equal(got, c.want) {
			t.Errorf("Shards(%d, %q) = %d, not %d", c.n, c.l, got, c.want)
		}
	}
}

// P3.4: Shards rise, each comes once, and they are those of the elements.
func TestShardsOfMany(t *testing.T) {
	numbers := noise(3000, 7)
	for i, x := range numbers {
		var l []string
		for _, y := range numbers[i:min(i+int(x%12), len(numbers))] {
			l = append(l, texts[y%uint64(len(texts))].s)
		}
		for n := 1; n <= most; n++ {
			var want []int
			for shard := range n {
				if slices.ContainsFunc(l, func(s string) bool { return fnv.Shard(s, n) == shard }) {
					want = append(want, shard)
				}
			}
			if got := fnv.Shards(n, l...); !slices.Equal(got, want) {
				t.Fatalf("Shards(%d, %q) = %d, not %d", n, l, got, want)
			}
		}
	}
}

// P3.4: Shards of no text, and among a number of shards that nobody has.
func TestShardsOfNothing(t *testing.T) {
	for n := 1; n <= most; n++ {
		if got := fnv.Shards(n); len(got) != 0 {
			t.Errorf("Shards(%d) = %d", n, got)
		}
		if got := fnv.Shards(n, []string{}...); len(got) != 0 {
			t.Errorf("Shards(%d) of an empty list = %d", n, got)
		}
	}
	for _, n := range wrongCounts {
		for _, l := range [][]string{nil, {""}, {"a"}, {"a", "foo", "a"}} {
			if got := fnv.Shards(n, l...); len(got) != 0 {
				t.Errorf("Shards(%d, %q) = %d", n, l, got)
			}
		}
	}
}

// P3.4: Shards neither changes its list nor reads beyond its length.
func TestShardsLeavesList(t *testing.T) {
	l := []string{"foo", "a", "foo", "ba"}
	if got := fnv.Shards(8, l[:3]...); !slices.Equal(got, []int{0, 7}) {
		t.Errorf("Shards = %d", got)
	}
	if !slices.Equal(l, []string{"foo", "a", "foo", "ba"}) {
		t.Errorf("the list became %q", l)
	}
}

// P3.4: All.
func TestAll(t *testing.T) {
	for n := 1; n <= most; n++ {
		want := []int{0, 1, 2, 3, 4, 5, 6, 7}[:n]
		if got := fnv.All(n); !slices.Equal(got, want) {
			t.Errorf("All(%d) = %d", n, got)
		}
	}
	for _, n := range wrongCounts {
		if got := fnv.All(n); len(got) != 0 {
			t.Errorf("All(%d) = %d", n, got)
		}
	}
}

// P3.4: each answer of Shards and All is new memory, spare capacity included.
func TestAnswersAreNew(t *testing.T) {
	for n := 1; n <= most; n++ {
		for name, ask := range map[string]func() []int{
			"All":    func() []int { return fnv.All(n) },
			"Shards": func() []int { return fnv.Shards(n, "foo", "a", "b", "c", "ba") },
		} {
			first := ask()
			want := slices.Clone(first)
			second := ask()
			for i := range second[:cap(second)] {
				second[:cap(second)][i] = -1
			}
			if third := ask(); !slices.Equal(first, want) || !slices.Equal(third, want) {
				t.Errorf("%s of %d: %d, then %d, not %d", name, n, first, third, want)
			}
		}
	}
}

// P3.5: Add with the same byte keeps different hashes apart.
func TestAddKeepsApart(t *testing.T) {
	before := sums()
	for i := range uint64(1 << 12) {
		before = append(before, i, i<<20, i<<32, i<<52, fnv.Start+i)
	}
	slices.Sort(before)
	before = slices.Compact(before)
	after := make([]uint64, len(before))
	for b := range 256 {
		for i, sum := range before {
			after[i] = fnv.Add(sum, byte(b))
		}
		slices.Sort(after)
		for i := 1; i < len(after); i++ {
			if after[i] == after[i-1] {
				t.Fatalf("two of %d hashes are both %x after byte %x", len(after), after[i], b)
			}
		}
	}
}
