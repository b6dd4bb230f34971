package ghash_test

import (
	"fmt"
	"math"
	"slices"
	"strings"
	"testing"

	"padlock/cipher"
	"padlock/ghash"
)

// block returns the block of 32 hexadecimal digits.
func block(digits string) cipher.Block { return cipher.Block([]byte(text(digits))) }

// text returns the bytes of hexadecimal digits.
func text(digits string) string {
	var l []byte
	_, err := fmt.Sscanf(digits, "%x", &l)
	if err != nil && digits != "" {
		panic("no bytes: " + digits)
	}
	return string(l)
}

// power returns x^n, for an n below 128.
func power(n int) cipher.Block {
	var b cipher.Block
	b[n/8] = 0x80 >> (n % 8)
	return b
}

// alike returns the block of equal bytes.
func alike(a byte) cipher.Block {
	return cipher.Block(slices.Repeat([]byte{a}, 16))
}

// noise returns a function that returns bytes of no pattern, the same in every run.
func noise(seed uint64) func(n int) string {
	return func(n int) string {
		l := make([]byte, n)
		for i := range l {
			seed ^= seed << 13
			seed ^= seed >> 7
			seed ^= seed << 17
			l[i] = byte(seed >> 32)
		}
		return string(l)
	}
}

// plus is the exclusive or of two blocks.
func plus(a, b cipher.Block) cipher.Block {
	for i := range a {
		a[i] ^= b[i]
	}
	return a
}

// product is the chapter's definition: the polynomials are multiplied as lists
// of coefficients, and the terms above x^127 are then replaced, the highest
// first, by what x^128 is modulo x^128 + x^7 + x^2 + x + 1.
func product(a, b cipher.Block) cipher.Block {
	var p, q [128]int
	for i := range 128 {
		p[i] = int(a[i/8]) >> (7 - i%8) % 2
		q[i] = int(b[i/8]) >> (7 - i%8) % 2
	}
	var terms [255]int
	for i := range p {
		if p[i] == 1 {
			for j := range q {
				terms[i+j] += q[j]
			}
		}
	}
	for i := len(terms) - 1; i >= 128; i-- {
		for _, term := range []int{7, 2, 1, 0} {
			terms[i-128+term] += terms[i] % 2
		}
	}
	var r cipher.Block
	for i := range 128 {
		r[i/8] += byte(terms[i] % 2 << (7 - i%8))
	}
	return r
}

// folded is the chapter's definition of Fold: byte i of s belongs to place
// i modulo 16.
func folded(h, sum cipher.Block, s string) cipher.Block {
	for i := range len(s) {
		sum[i%16] ^= s[i]
		if i%16 == 15 || i == len(s)-1 {
			sum = product(sum, h)
		}
	}
	return sum
}

// lengths returns the block that Sum adds last.
func lengths(ad, text int) cipher.Block {
	return block(fmt.Sprintf("%016x%016x", 8*ad, 8*text))
}

// summed is the chapter's definition of Sum.
func summed(h cipher.Block, ad, text string) cipher.Block {
	sum := folded(h, cipher.Block{}, ad)
	sum = folded(h, sum, text)
	return product(plus(sum, lengths(len(ad), len(text))), h)
}

// someBlocks returns blocks of few terms, of all, and of no pattern.
func someBlocks() []cipher.Block {
	l := []cipher.Block{
		{},
		power(0),
		power(1),
		power(63),
		power(64),
		power(126),
		power(127),
		alike(0xff),
		alike(0x80),
		alike(0x01),
		block("e1000000000000000000000000000000"),
		block("ffffffffffffffff0000000000000000"),
		block("0000000000000000ffffffffffffffff"),
		block("00000000000000018000000000000000"),
		block("000102030405060708090a0b0c0d0e0f"),
		block("66e94bd4ef8a2c3b884cfa59ca342b2e"),
		block("b83b533708bf535d0aa6e52980d53b78"),
	}
	next := noise(7)
	for range 8 {
		l = append(l, cipher.Block([]byte(next(16))))
	}
	return l
}

// P8.1: Mul.
func TestMul(t *testing.T) {
	cases := []struct{ a, b, want string }{
		{"40000000000000000000000000000000", "40000000000000000000000000000000", "20000000000000000000000000000000"},
		{"00000000000000010000000000000000", "40000000000000000000000000000000", "00000000000000008000000000000000"},
		{"c0000000000000000000000000000000", "c0000000000000000000000000000000", "a0000000000000000000000000000000"},
		{"40000000000000000000000000000000", "00000000000000000000000000000002", "00000000000000000000000000000001"},
		{"40000000000000000000000000000000", "00000000000000000000000000000001", "e1000000000000000000000000000000"}, // the first that is reduced
		{"00000000000000000000000000000001", "40000000000000000000000000000000", "e1000000000000000000000000000000"},
		{"00000000000000008000000000000000", "00000000000000008000000000000000", "e1000000000000000000000000000000"},
		{"00000000000000000000000000000001", "00000000000000000000000000000001", "e6080000000000000000000000000003"}, // reduced twice
		{"ffffffffffffffffffffffffffffffff", "ffffffffffffffffffffffffffffffff", "f402aaaaaaaaaaaaaaaaaaaaaaaaaaaa"},
		{"00112233445566778899aabbccddeeff", "ffeeddccbbaa99887766554433221100", "e1e94d05852d89c11c14b0f878d0743c"},
		{"66e94bd4ef8a2c3b884cfa59ca342b2e", "66e94bd4ef8a2c3b884cfa59ca342b2e", "a569901bb4b18906f5059d24465c904d"},
		{"66e94bd4ef8a2c3b884cfa59ca342b2e", "b83b533708bf535d0aa6e52980d53b78", "ef59fe80701f896bbb9cab5b0908053e"},
		{"0388dace60b6a392f328c2b971b2fe78", "66e94bd4ef8a2c3b884cfa59ca342b2e", "5e2ec746917062882c85b0685353deb7"}, // of the specification of GCM
	}
	for _, c := range cases {
		if got := ghash.Mul(block(c.a), block(c.b)); got != block(c.want) {
			t.Errorf("Mul(%s, %s) = %x, not %s", c.a, c.b, got, c.want)
		}
	}
}

// P8.1: Mul by One and by zero, either way round.
func TestMulByOneAndZero(t *testing.T) {
	one, zero := ghash.One(), cipher.Block{}
	for _, b := range someBlocks() {
		if ghash.Mul(one, b) != b || ghash.Mul(b, one) != b {
			t.Errorf("%x by One: %x, %x", b, ghash.Mul(one, b), ghash.Mul(b, one))
		}
		if ghash.Mul(zero, b) != zero || ghash.Mul(b, zero) != zero {
			t.Errorf("%x by zero: %x, %x", b, ghash.Mul(zero, b), ghash.Mul(b, zero))
		}
	}
}

// P8.1: Mul of all pairs of powers of x: each coefficient at each place.
func TestMulOfPowers(t *testing.T) {
	for i := range 128 {
		for j := range 128 {
			got, want := ghash.Mul(power(i), power(j)), product(power(i), power(j))
			if got != want || i+j < 128 && got != power(i+j) {
				t.Fatalf("x^%d by x^%d = %x, not %x", i, j, got, want)
			}
		}
	}
}

// P8.1: Mul of many pairs of blocks.
func TestMulOfMany(t *testing.T) {
	next := noise(11)
	pair := func(a, b cipher.Block) {
		if got, want := ghash.Mul(a, b), product(a, b); got != want {
			t.Fatalf("Mul(%x, %x) = %x, not %x", a, b, got, want)
		}
	}
	for _, a := range someBlocks() {
		for _, b := range someBlocks() {
			pair(a, b)
		}
	}
	for range 1000 {
		pair(cipher.Block([]byte(next(16))), cipher.Block([]byte(next(16))))
	}
}

// P8.1: One.
func TestOne(t *testing.T) {
	if got := ghash.One(); got != block("80000000000000000000000000000000") {
		t.Errorf("One() = %x", got)
	}
}

// P8.1: Pow.
func TestPow(t *testing.T) {
	const h, x = "66e94bd4ef8a2c3b884cfa59ca342b2e", "40000000000000000000000000000000"
	const one, zero = "80000000000000000000000000000000", "00000000000000000000000000000000"
	cases := []struct {
		h    string
		n    int
		want string
	}{
		{h, math.MinInt, one}, // no factor
		{h, -65536, one},
		{h, -1, one},
		{h, 0, one},
		{zero, -1, one},
		{zero, 0, one},
		{zero, 1, zero},
		{zero, 2, zero},
		{zero, 65536, zero},
		{zero, math.MaxInt, zero},
		{one, 1, one},
		{one, 65535, one},
		{one, math.MaxInt, one},
		{h, 1, h},
		{h, 2, "a569901bb4b18906f5059d24465c904d"},
		{h, 3, "a24af38161917d7c9ae0d027c5fd91ca"},
		{h, 65535, "a07ea7e619e60b49e417412b700d844a"},
		{h, 65536, "844f0ee4ad959273d0bcd37543efeb82"},
		{h, 65537, "844f0ee4ad959273d0bcd37543efeb82"}, // counts as 65536, as do all below
		{h, 65538, "844f0ee4ad959273d0bcd37543efeb82"},
		{h, 2 * 65536, "844f0ee4ad959273d0bcd37543efeb82"},
		{h, math.MaxInt32 + 1, "844f0ee4ad959273d0bcd37543efeb82"},
		{h, math.MaxUint32 + 1, "844f0ee4ad959273d0bcd37543efeb82"},
		{h, math.MaxUint32 + 2, "844f0ee4ad959273d0bcd37543efeb82"},
		{h, math.MaxInt, "844f0ee4ad959273d0bcd37543efeb82"},
		{x, 127, "00000000000000000000000000000001"},
		{x, 128, "e1000000000000000000000000000000"},
		{x, 129, "70800000000000000000000000000000"},
		{x, 255, "92040000000000000000000000000001"},
		{x, 256, "a8020000000000000000000000000000"},
		{x, 65535, "1dee3d2d30cfe3110d21111110010010"},
		{x, 65536, "0ef71e969867f1888690888888008008"},
		{x, 65537, "0ef71e969867f1888690888888008008"},
		{x, math.MaxInt, "0ef71e969867f1888690888888008008"},
	}
	for _, c := range cases {
		if got := ghash.Pow(block(c.h), c.n); got != block(c.want) {
			t.Errorf("Pow(%s, %d) = %x, not %s", c.h, c.n, got, c.want)
		}
	}
}

// P8.1: Pow of up to 200 factors, one after the other.
func TestPowOfFew(t *testing.T) {
	for _, h := range someBlocks() {
		want := power(0)
		for n := range 200 {
			if got := ghash.Pow(h, n); got != want {
				t.Fatalf("Pow(%x, %d) = %x, not %x", h, n, got, want)
			}
			want = product(want, h)
		}
	}
}

// P8.1: Pow of every number of factors that counts, and of some more.
func TestPowOfAll(t *testing.T) {
	h, want := block("b83b533708bf535d0aa6e52980d53b78"), power(0)
	for n := range 65536 + 300 {
		if got := ghash.Pow(h, n); got != want {
			t.Fatalf("Pow(%x, %d) = %x, not %x", h, n, got, want)
		}
		if n < 65536 {
			want = ghash.Mul(want, h)
		}
	}
}

// P8.1: Bit of each coefficient alone, and of all but one.
func TestBit(t *testing.T) {
	for n := range 128 {
		alone, others := power(n), plus(alike(0xff), power(n))
		for i := range 128 {
			if got := ghash.Bit(alone, i); got != (i == n) {
				t.Fatalf("Bit(%x, %d) = %v", alone, i, got)
			}
			if got := ghash.Bit(others, i); got != (i != n) {
				t.Fatalf("Bit(%x, %d) = %v", others, i, got)
			}
		}
	}
}

// P8.1: Bit at the ends of a block, and at places that no block has.
func TestBitAtTheEnds(t *testing.T) {
	b := block("80000000000000000000000000000001")
	for i, want := range map[int]bool{-1: false, 0: true, 1: false, 126: false, 127: true, 128: false} {
		if got := ghash.Bit(b, i); got != want {
			t.Errorf("Bit(%x, %d) = %v", b, i, got)
		}
	}
	places := []int{math.MinInt, math.MinInt + 1, math.MinInt32, -256, -129, -128, -127, -64, -8, -7, -1}
	places = append(places, 128, 129, 135, 136, 191, 192, 255, 256, 1<<16, 1<<32, math.MaxInt-127, math.MaxInt)
	for _, i := range places {
		if ghash.Bit(alike(0xff), i) || ghash.Bit(b, i) || ghash.Bit(cipher.Block{}, i) {
			t.Errorf("Bit at %d is true", i)
		}
	}
}

// P8.2: Fold of known texts, block by block.
func TestFold(t *testing.T) {
	h := block("b83b533708bf535d0aa6e52980d53b78")
	cases := []struct{ s, want string }{ // of the specification of GCM
		{"42831ec2217774244b7221b784d0d49c", "59ed3f2bb1a0aaa07c9f56c6a504647b"},
		{"e3aa212f2c02a4e035c17e2329aca12e", "b714c9048389afd9f9bc5c1d4378e052"},
		{"21d514b25466931c7d8f6a5aac84aa05", "47400c6577b1ee8d8f40b2721e86ff10"},
		{"1ba30b396a0aac973d58e091473f5985", "4796cf49464704b5dd91f159bb1b7f95"},
	}
	var sum cipher.Block
	all := ""
	for _, c := range cases {
		sum = ghash.Fold(h, sum, text(c.s))
		all += text(c.s)
		if whole := ghash.Fold(h, cipher.Block{}, all); sum != block(c.want) || whole != sum {
			t.Errorf("Fold up to %s = %x, in one piece %x, not %s", c.s, sum, whole, c.want)
		}
	}
}

// P8.2: Fold of an empty text returns the sum as it is.
func TestFoldOfNothing(t *testing.T) {
	for _, h := range someBlocks() {
		for _, sum := range someBlocks() {
			if got := ghash.Fold(h, sum, ""); got != sum {
				t.Fatalf("Fold(%x, %x, \"\") = %x", h, sum, got)
			}
		}
	}
}

// P8.2: Fold of texts around one block: of 15 bytes as of those and a zero byte,
// of 17 as of a block and another one of a byte and zeros.
func TestFoldAroundABlock(t *testing.T) {
	h, sum := block("66e94bd4ef8a2c3b884cfa59ca342b2e"), block("000102030405060708090a0b0c0d0e0f")
	const s = "abcdefghijklmnopq"
	short := plus(sum, cipher.Block([]byte("abcdefghijklmno\x00")))
	if got := ghash.Fold(h, sum, s[:15]); got != product(short, h) || got != ghash.Fold(h, sum, s[:15]+"\x00") {
		t.Errorf("of 15 bytes: %x", got)
	}
	once := product(plus(sum, cipher.Block([]byte(s[:16]))), h)
	if got := ghash.Fold(h, sum, s[:16]); got != once {
		t.Errorf("of 16 bytes: %x, not %x", got, once)
	}
	twice := product(plus(once, cipher.Block{'q'}), h)
	if got := ghash.Fold(h, sum, s); got != twice || got != ghash.Fold(h, sum, s+strings.Repeat("\x00", 15)) {
		t.Errorf("of 17 bytes: %x, not %x", got, twice)
	}
	if ghash.Fold(h, sum, s[:16]) == ghash.Fold(h, sum, s[:16]+"\x00") {
		t.Error("a zero byte behind a whole block makes no block")
	}
}

// P8.2: Fold of texts of 0 to 70 bytes, on some sums, as the chapter defines it.
func TestFoldOfMany(t *testing.T) {
	next := noise(13)
	for n := range 71 {
		s := next(n)
		for _, h := range someBlocks()[7:17] {
			sum := cipher.Block([]byte(next(16)))
			if got, want := ghash.Fold(h, sum, s), folded(h, sum, s); got != want {
				t.Fatalf("Fold(%x, %x, %x) = %x, not %x", h, sum, s, got, want)
			}
		}
	}
}

// P8.2: with h = One, Fold is the exclusive or of all blocks and the sum; with
// h = zero, it is zero behind any block.
func TestFoldByOneAndZero(t *testing.T) {
	s := noise(17)(16*1000 + 3)
	sum := block("00112233445566778899aabbccddeeff")
	want := sum
	for i := range len(s) {
		want[i%16] ^= s[i]
	}
	if got := ghash.Fold(ghash.One(), sum, s); got != want {
		t.Errorf("Fold by One = %x, not %x", got, want)
	}
	for _, s := range []string{"\x00", "a", s} {
		if got := ghash.Fold(cipher.Block{}, sum, s); got != (cipher.Block{}) {
			t.Errorf("Fold of %d bytes by zero = %x", len(s), got)
		}
	}
}

// P8.3: Sum of known texts.
func TestSum(t *testing.T) {
	const zero = "00000000000000000000000000000000"
	const h, other = "66e94bd4ef8a2c3b884cfa59ca342b2e", "b83b533708bf535d0aa6e52980d53b78"
	const ad = "feedfacedeadbeeffeedfacedeadbeefabaddad2"
	const secret = "42831ec2217774244b7221b784d0d49ce3aa212f2c02a4e035c17e2329aca12e21d514b25466931c7d8f6a5aac84aa051ba30b396a0aac973d58e091"
	cases := []struct{ h, ad, text, want string }{
		{h, "", "", zero},
		{other, "", "", zero},
		{zero, ad, secret, zero},
		{h, "", "0388dace60b6a392f328c2b971b2fe78", "f38cbb1ad69223dcc3457ae5b6b0f885"}, // of the specification of GCM, as are the next three
		{other, "", secret + "473f5985", "7f1b32b81b820d02614f8895ac1d4eac"},
		{other, ad, secret, "698e57f70e6ecc7fd9463b7260a9ae5f"},
		{other, "", "9313225df88406e555909c5aff5269aa6a7a9538534f7da1e4c303d2a318a728c3c0c95156809539fcf0e2429a6b525416aedbf5a0de6a57a637b39b", "3bab75780a31c059f83d2a44752f9864"},
		{other, ad, "", "06232cb66d9aa4a8153b3e4b64202462"},
		{other, "", ad, "2f562871edccf118bb8736ae9d355970"},
		{other, ad, ad, "a950027d5ca54fc3c280b34ca8928634"},
	}
	for _, c := range cases {
		if got := ghash.Sum(block(c.h), text(c.ad), text(c.text)); got != block(c.want) {
			t.Errorf("Sum(%s, %s, %s) = %x, not %s", c.h, c.ad, c.text, got, c.want)
		}
	}
}

// P8.3: Sum of two empty texts is zero, whatever h is.
func TestSumOfNothing(t *testing.T) {
	for _, h := range someBlocks() {
		if got := ghash.Sum(h, "", ""); got != (cipher.Block{}) {
			t.Errorf("Sum(%x) of nothing = %x", h, got)
		}
	}
}

// P8.3: Sum of ad alone, of text alone, of both and of the same as both, each of
// 0 to 35 bytes, as the chapter defines it.
func TestSumOfMany(t *testing.T) {
	next := noise(19)
	for n := range 36 {
		for _, m := range []int{0, 1, 15, 16, 17, 32, 35 - n} {
			h := cipher.Block([]byte(next(16)))
			ad, s := next(n), next(max(m, 0))
			for _, pair := range [][2]string{{ad, ""}, {"", ad}, {ad, s}, {s, ad}, {ad, ad}} {
				got, want := ghash.Sum(h, pair[0], pair[1]), summed(h, pair[0], pair[1])
				if got != want {
					t.Fatalf("Sum(%x, %x, %x) = %x, not %x", h, pair[0], pair[1], got, want)
				}
			}
		}
	}
}

// P8.3: the last block: the Sum of zero bytes with h = One is that block.
func TestLengths(t *testing.T) {
	zeros := strings.Repeat("\x00", 1<<21+5)
	for _, n := range []int{0, 1, 2, 15, 16, 17, 31, 32, 255, 256, 8191, 8192, 1 << 16, 1 << 21, 1<<21 + 5} {
		for _, m := range []int{0, 1, 16, 31, 32, 8192, 1<<16 + 1} {
			if got, want := ghash.Sum(ghash.One(), zeros[:n], zeros[:m]), lengths(n, m); got != want {
				t.Errorf("lengths %d and %d: %x, not %x", n, m, got, want)
			}
		}
	}
	if got, want := ghash.Sum(ghash.One(), "", zeros), lengths(0, len(zeros)); got != want {
		t.Errorf("length %d: %x, not %x", len(zeros), got, want)
	}
}

// P8.3, P8.4: pairs of the same blocks but for the last one, of the lengths, have
// different Sums: the same bytes in ad and in text, divided between both in
// another way, or with zero bytes behind them.
func TestSumsOfOtherLengths(t *testing.T) {
	a, aa := strings.Repeat("a", 16), strings.Repeat("a", 32)
	groups := [][][2]string{
		{{"", ""}},
		{{"a", ""}, {"", "a"}, {"a\x00", ""}, {"", "a\x00"}, {"a\x00\x00", ""}, {"", "a" + strings.Repeat("\x00", 15)}},
		{{"\x00", ""}, {"", "\x00"}, {"\x00\x00", ""}, {"", "\x00\x00"}},
		{{a, ""}, {"", a}},
		{{a, a}, {aa, ""}, {"", aa}},
		{{"a", "b"}, {"a\x00", "b"}, {"a", "b\x00"}, {"a\x00", "b\x00"}},
		{{a, "b"}, {a + "b", ""}, {"", a + "b"}, {a + "b\x00", ""}, {a, "b\x00"}},
	}
	for _, h := range someBlocks()[1:] {
		for _, pairs := range groups {
			from := map[cipher.Block][2]string{}
			for _, pair := range pairs {
				s := ghash.Sum(h, pair[0], pair[1])
				if before, taken := from[s]; taken {
					t.Errorf("%q and %q have the same Sum %x by %x", before, pair, s, h)
				}
				from[s] = pair
			}
		}
	}
}

// P8.4: factors in the other order, in other brackets, and of a sum.
func TestOrderBracketsAndSums(t *testing.T) {
	l := someBlocks()
	for _, a := range l {
		for _, b := range l {
			ab := ghash.Mul(a, b)
			if ba := ghash.Mul(b, a); ba != ab {
				t.Fatalf("%x by %x = %x, the other way round %x", a, b, ab, ba)
			}
			for _, c := range l {
				if left, right := ghash.Mul(ab, c), ghash.Mul(a, ghash.Mul(b, c)); left != right {
					t.Fatalf("%x by %x by %x = %x, and %x in other brackets", a, b, c, left, right)
				}
				if whole, parts := ghash.Mul(plus(b, c), a), plus(ab, ghash.Mul(a, c)); whole != parts {
					t.Fatalf("%x by %x + %x = %x, by each of them %x", a, b, c, whole, parts)
				}
			}
		}
	}
}

// P8.4: texts that differ in exactly one block, here in any one bit of it or in
// all bits, have different Sums.
func TestSumsDiffer(t *testing.T) {
	next := noise(23)
	for _, h := range append(someBlocks()[1:], power(2), power(7), power(120)) {
		for _, n := range []int{1, 15, 16, 17, 33, 48} {
			ad, s := next(n), next(49-n)
			for first := 0; first < n; first += 16 {
				end := min(first+16, n)
				differ(t, first, end, ad, func(changed string) cipher.Block { return ghash.Sum(h, changed, s) })
				differ(t, first, end, ad, func(changed string) cipher.Block { return ghash.Sum(h, s, changed) })
			}
		}
	}
}

// differ changes the bytes of s from the place first to the one before end in many
// ways, and wants as many Sums.
func differ(t *testing.T, first, end int, s string, sum func(string) cipher.Block) {
	t.Helper()
	flipped := []byte(s)
	changed := []string{s}
	for i := first; i < end; i++ {
		for bit := range 8 {
			one := []byte(s)
			one[i] ^= 1 << bit
			changed = append(changed, string(one))
		}
		flipped[i] ^= 0xff
	}
	changed = append(changed, string(flipped))
	from := map[cipher.Block]string{}
	for _, c := range changed {
		s := sum(c)
		if same, taken := from[s]; taken {
			t.Fatalf("%x and %x have the same Sum %x", same, c, s)
		}
		from[s] = c
	}
}

// P8.4: with h = zero, all Sums are alike, so the promise has to except it.
func TestSumsByZero(t *testing.T) {
	for _, s := range []string{"", "a", "b", strings.Repeat("c", 40)} {
		if got := ghash.Sum(cipher.Block{}, s, s); got != (cipher.Block{}) {
			t.Errorf("Sum of %q by zero = %x", s, got)
		}
	}
}
