package cipher_test

import (
	"fmt"
	"slices"
	"strings"
	"testing"

	"padlock/api"
	"padlock/cipher"
)

// block returns the block of 32 hexadecimal digits, which may be in words.
func block(digits string) cipher.Block {
	var l []byte
	_, err := fmt.Sscanf(strings.ReplaceAll(digits, " ", ""), "%x", &l)
	if err != nil || len(l) != 16 {
		panic("no block: " + digits)
	}
	return cipher.Block(l)
}

// bit returns the block in which just that bit is 1.
func bit(n int) cipher.Block {
	var b cipher.Block
	b[n/8] = 1 << (n % 8)
	return b
}

// alike returns the block of equal bytes.
func alike(a byte) cipher.Block {
	return cipher.Block(slices.Repeat([]byte{a}, 16))
}

// alikeRounds returns rounds of equal blocks.
func alikeRounds(b cipher.Block) cipher.Rounds {
	return cipher.Rounds(slices.Repeat([]cipher.Block{b}, 11))
}

// noise returns a function that returns blocks of no pattern, the same in every run.
func noise(seed uint64) func() cipher.Block {
	return func() cipher.Block {
		var b cipher.Block
		for i := range b {
			seed ^= seed << 13
			seed ^= seed >> 7
			seed ^= seed << 17
			b[i] = byte(seed >> 32)
		}
		return b
	}
}

// double returns the product of a and x.
func double(a byte) byte {
	if a < 0x80 {
		return 2 * a
	}
	return 2*a ^ 0x1b
}

// boxes returns the Boxes of all bytes apart from gf: power goes through the
// powers of 3, and inverse through their inverses, the powers of f6.
func boxes() *[256]byte {
	l := [256]byte{0: 0x63}
	power, inverse := byte(1), byte(1)
	for range 255 {
		mixed := 0x63
		for i := range 5 {
			turned := int(inverse) << i
			mixed ^= turned/256 + turned%256
		}
		l[power] = byte(mixed)
		power ^= double(power)
		// f6 is 80 + 40 + 20 + 10 + 4 + 2.
		product, factor := byte(0), inverse
		for i := range 8 {
			if 0xf6>>i&1 == 1 {
				product ^= factor
			}
			factor = double(factor)
		}
		inverse = product
	}
	return &l
}

// words returns the 44 words that the chapter defines for a key.
func words(key cipher.Block, boxes *[256]byte) [44][4]byte {
	constants := [11]byte{0, 1, 2, 4, 8, 0x10, 0x20, 0x40, 0x80, 0x1b, 0x36}
	var w [44][4]byte
	for n := range w {
		if n < 4 {
			w[n] = [4]byte(key[4*n:])
			continue
		}
		t := w[n-1]
		if n%4 == 0 {
			for i := range t {
				t[i] = boxes[w[n-1][(i+1)%4]]
			}
			t[0] ^= constants[n/4]
		}
		for i := range t {
			w[n][i] = w[n-4][i] ^ t[i]
		}
	}
	return w
}

// sealed returns what the chapter defines as the Seal of b, on a square of rows
// and columns.
func sealed(r cipher.Rounds, b cipher.Block, boxes *[256]byte) cipher.Block {
	var square [4][4]byte
	for row := range 4 {
		for column := range 4 {
			square[row][column] = b[row+4*column] ^ r[0][row+4*column]
		}
	}
	for n := 1; n <= 10; n++ {
		var turned [4][4]byte
		for row := range 4 {
			for column := range 4 {
				turned[row][column] = boxes[square[row][(column+row)%4]]
			}
		}
		square = turned
		for row := range 4 {
			for column := range 4 {
				if n < 10 {
					p, q := turned[row][column], turned[(row+1)%4][column]
					square[row][column] = double(p) ^ double(q) ^ q ^ turned[(row+2)%4][column] ^ turned[(row+3)%4][column]
				}
				square[row][column] ^= r[n][row+4*column]
			}
		}
	}
	for i := range b {
		b[i] = square[i%4][i/4]
	}
	return b
}

// someRounds returns rounds of keys, and rounds that Expand does not return for
// any key.
func someRounds() []cipher.Rounds {
	next := noise(7)
	l := []cipher.Rounds{
		{},
		alikeRounds(alike(0xff)),
		alikeRounds(alike(0x63)),
		alikeRounds(block("000102030405060708090a0b0c0d0e0f")),
		cipher.Expand(cipher.Block{}),
		cipher.Expand(alike(0xff)),
		cipher.Expand(block("000102030405060708090a0b0c0d0e0f")),
		cipher.Expand(block("2b7e151628aed2a6abf7158809cf4f3c")),
	}
	for n := range 11 {
		var one, noisy cipher.Rounds
		one[n] = block("0123456789abcdeffedcba9876543210")
		for i := range noisy {
			noisy[i] = next()
		}
		back := cipher.Expand(next())
		slices.Reverse(back[:])
		l = append(l, one, noisy, back, alikeRounds(next()), cipher.Expand(next()))
	}
	return l
}

// someBlocks returns blocks of a single bit, of equal bytes, and of no pattern.
func someBlocks() []cipher.Block {
	l := []cipher.Block{
		{},
		alike(0xff),
		alike(0x52), // its Box is 0
		block("000102030405060708090a0b0c0d0e0f"),
		block("00112233445566778899aabbccddeeff"),
	}
	for n := range 128 {
		l = append(l, bit(n))
	}
	next := noise(11)
	for range 64 {
		l = append(l, next())
	}
	return l
}

// P7.1: Of of sixteen bytes, whatever they are.
func TestOf(t *testing.T) {
	cases := []struct {
		s    string
		want cipher.Block
	}{
		{"0123456789abcdef", block("30313233343536373839616263646566")},
		{"                ", alike(' ')},
		{strings.Repeat("\x00", 16), cipher.Block{}},
		{strings.Repeat("\xff", 16), alike(0xff)},
		{strings.Repeat("\x80", 16), alike(0x80)},
		{"äöüäöüäö", block("c3a4c3b6c3bcc3a4c3b6c3bcc3a4c3b6")}, // eight characters
		{"\xc3\x28\xa0\xa1\xe2\x28\xa1\xf0\x90\x28\xbc\x00\xfe\xff\xc0\x80", block("c328a0a1e228a1f09028bc00feffc080")},
		{"\x00\x01\x02\x03\x04\x05\x06\x07\x08\t\n\v\f\r\x0e\x0f", block("000102030405060708090a0b0c0d0e0f")},
	}
	for _, c := range cases {
		if got, bad := cipher.Of(c.s); got != c.want || bad != api.OK {
			t.Errorf("Of(%q) = %x, %d, not %x", c.s, got, bad, c.want)
		}
	}
}

// P7.1: Of of another number of bytes.
func TestOfOfOtherLengths(t *testing.T) {
	texts := []string{
		"",
		"a",
		"123456789012345",
		"12345678901234567",
		"äöüäöüäöüäöüäöüä", // sixteen characters, but 32 bytes
		"äöüäöüä",          // 14 bytes
		strings.Repeat("\xff", 15),
		strings.Repeat("\xff", 17),
		strings.Repeat("\x00", 15),
		strings.Repeat("\x00", 17),
	}
	for n := range 300 {
		if n != 16 {
			texts = append(texts, strings.Repeat("x", n))
		}
	}
	texts = append(texts, strings.Repeat("x", 1<<16), strings.Repeat("x", 1<<16+16))
	for _, s := range texts {
		if got, bad := cipher.Of(s); got != (cipher.Block{}) || bad != api.ErrArg {
			t.Errorf("Of of %d bytes = %x, %d", len(s), got, bad)
		}
	}
}

// P7.1: Xor.
func TestXor(t *testing.T) {
	cases := []struct{ a, b, want string }{
		{"00112233445566778899aabbccddeeff", "000102030405060708090a0b0c0d0e0f", "00102030405060708090a0b0c0d0e0f0"},
		{"ffffffffffffffffffffffffffffffff", "0f0f0f0f0f0f0f0ff0f0f0f0f0f0f0f0", "f0f0f0f0f0f0f0f00f0f0f0f0f0f0f0f"},
		{"80000000000000000000000000000001", "00000000000000000000000000000000", "80000000000000000000000000000001"},
		{"80000000000000000000000000000001", "80000000000000000000000000000000", "00000000000000000000000000000001"},
		{"ffffffffffffffffffffffffffffffff", "00112233445566778899aabbccddeeff", "ffeeddccbbaa99887766554433221100"},
	}
	for _, c := range cases {
		if got := cipher.Xor(block(c.a), block(c.b)); got != block(c.want) {
			t.Errorf("Xor(%s, %s) = %x, not %s", c.a, c.b, got, c.want)
		}
	}
}

// P7.1: Xor of all pairs of bytes at each place, of a block with itself, and
// with zero.
func TestXorOfMany(t *testing.T) {
	for a := range 256 {
		for b := range 256 {
			if got := cipher.Xor(alike(byte(a)), alike(byte(b))); got != alike(byte(a^b)) {
				t.Fatalf("Xor of %x and %x = %x", a, b, got)
			}
		}
	}
	for _, a := range someBlocks() {
		if got := cipher.Xor(a, a); got != (cipher.Block{}) {
			t.Errorf("Xor of %x with itself = %x", a, got)
		}
		if got := cipher.Xor(a, cipher.Block{}); got != a {
			t.Errorf("Xor of %x with zero = %x", a, got)
		}
		for _, b := range someBlocks() {
			if x := cipher.Xor(a, b); cipher.Xor(b, a) != x || cipher.Xor(x, b) != a || (x == cipher.Block{}) != (a == b) {
				t.Fatalf("Xor(%x, %x) = %x", a, b, x)
			}
		}
	}
}

// P7.2: Turn and Unturn of sixteen different bytes.
func TestTurn(t *testing.T) {
	b := block("000102030405060708090a0b0c0d0e0f")
	if got, want := cipher.Turn(b), block("00050a0f04090e03080d02070c01060b"); got != want {
		t.Errorf("Turn(%x) = %x, not %x", b, got, want)
	}
	if got, want := cipher.Unturn(b), block("000d0a0704010e0b0805020f0c090603"); got != want {
		t.Errorf("Unturn(%x) = %x, not %x", b, got, want)
	}
}

// P7.2: the byte at each place.
func TestTurnOfOneByte(t *testing.T) {
	for column := range 4 {
		for row := range 4 {
			var b, left, right cipher.Block
			b[4*column+row] = 0xa5
			left[4*((column+4-row)%4)+row] = 0xa5
			right[4*((column+row)%4)+row] = 0xa5
			if got := cipher.Turn(b); got != left {
				t.Errorf("Turn(%x) = %x, not %x", b, got, left)
			}
			if got := cipher.Unturn(b); got != right {
				t.Errorf("Unturn(%x) = %x, not %x", b, got, right)
			}
		}
	}
}

// P7.2: Unturn of Turn, Turn of Unturn, and each of them four times over.
func TestTurnBack(t *testing.T) {
	for _, b := range someBlocks() {
		if got := cipher.Unturn(cipher.Turn(b)); got != b {
			t.Errorf("Unturn of Turn(%x) = %x", b, got)
		}
		if got := cipher.Turn(cipher.Unturn(b)); got != b {
			t.Errorf("Turn of Unturn(%x) = %x", b, got)
		}
		left, right := b, b
		for range 4 {
			left, right = cipher.Turn(left), cipher.Unturn(right)
		}
		if left != b || right != b {
			t.Errorf("four times over, %x is %x and %x", b, left, right)
		}
	}
	b := block("000102030405060708090a0b0c0d0e0f")
	once := cipher.Turn(b)
	twice := cipher.Turn(once)
	thrice := cipher.Turn(twice)
	if once == b || twice == b || thrice == b || thrice != cipher.Unturn(b) {
		t.Errorf("once, twice, thrice: %x, %x, %x", once, twice, thrice)
	}
}

// P7.3: the words of known keys; from n = 36 on, the constant is one that was
// doubled past 8 bits.
func TestExpand(t *testing.T) {
	cases := [][11]string{
		{ // of the standard of AES
			"2b7e1516 28aed2a6 abf71588 09cf4f3c",
			"a0fafe17 88542cb1 23a33939 2a6c7605",
			"f2c295f2 7a96b943 5935807a 7359f67f",
			"3d80477d 4716fe3e 1e237e44 6d7a883b",
			"ef44a541 a8525b7f b671253b db0bad00",
			"d4d1c6f8 7c839d87 caf2b8bc 11f915bc",
			"6d88a37a 110b3efd dbf98641 ca0093fd",
			"4e54f70e 5f5fc9f3 84a64fb2 4ea6dc4f",
			"ead27321 b58dbad2 312bf560 7f8d292f",
			"ac7766f3 19fadc21 28d12941 575c006e",
			"d014f9a8 c9ee2589 e13f0cc8 b6630ca6",
		},
		{
			"00000000 00000000 00000000 00000000",
			"62636363 62636363 62636363 62636363",
			"9b9898c9 f9fbfbaa 9b9898c9 f9fbfbaa",
			"90973450 696ccffa f2f45733 0b0fac99",
			"ee06da7b 876a1581 759e42b2 7e91ee2b",
			"7f2e2b88 f8443e09 8dda7cbb f34b9290",
			"ec614b85 1425758c 99ff0937 6ab49ba7",
			"21751787 3550620b acaf6b3c c61bf09b",
			"0ef90333 3ba96138 97060a04 511dfa9f",
			"b1d4d8e2 8a7db9da 1d7bb3de 4c664941",
			"b4ef5bcb 3e92e211 23e951cf 6f8f188e",
		},
	}
	for _, c := range cases {
		r := cipher.Expand(block(c[0]))
		for n, want := range c {
			if r[n] != block(want) {
				t.Errorf("round key %d of %s = %x, not %s", n, c[0], r[n], want)
			}
		}
	}
}

// P7.3: each of the 44 words of many keys, as the chapter defines it.
func TestExpandOfMany(t *testing.T) {
	l := boxes()
	for _, key := range someBlocks() {
		r := cipher.Expand(key)
		for n, want := range words(key, l) {
			if got := [4]byte(r[n/4][n%4*4:]); got != want {
				t.Fatalf("word %d of %x = %x, not %x", n, key, got, want)
			}
		}
	}
}

// P7.4, P7.5: known blocks.
func TestSealAndOpen(t *testing.T) {
	cases := []struct{ key, b, want string }{
		{"000102030405060708090a0b0c0d0e0f", "00112233445566778899aabbccddeeff", "69c4e0d86a7b0430d8cdb78070b4c55a"}, // the chapter's
		{"2b7e151628aed2a6abf7158809cf4f3c", "3243f6a8885a308d313198a2e0370734", "3925841d02dc09fbdc118597196a0b32"},
		{"2b7e151628aed2a6abf7158809cf4f3c", "6bc1bee22e409f96e93d7e117393172a", "3ad77bb40d7a3660a89ecaf32466ef97"},
		{"2b7e151628aed2a6abf7158809cf4f3c", "ae2d8a571e03ac9c9eb76fac45af8e51", "f5d3d58503b9699de785895a96fdbaaf"},
		{"2b7e151628aed2a6abf7158809cf4f3c", "30c81c46a35ce411e5fbc1191a0a52ef", "43b1cd7f598ece23881b00e3ed030688"},
		{"2b7e151628aed2a6abf7158809cf4f3c", "f69f2445df4f9b17ad2b417be66c3710", "7b0c785e27e8ad3f8223207104725dd4"},
		{"00000000000000000000000000000000", "00000000000000000000000000000000", "66e94bd4ef8a2c3b884cfa59ca342b2e"},
		{"00000000000000000000000000000000", "80000000000000000000000000000000", "3ad78e726c1ec02b7ebfe92b23d9ec34"},
		{"00000000000000000000000000000000", "ffffffffffffffffffffffffffffffff", "3f5b8cc9ea855a0afa7347d23e8d664e"},
		{"80000000000000000000000000000000", "00000000000000000000000000000000", "0edd33d3c621e546455bd8ba1418bec8"},
		{"ffffffffffffffffffffffffffffffff", "00000000000000000000000000000000", "a1f6258c877d5fcd8964484538bfc92c"},
	}
	for _, c := range cases {
		r := cipher.Expand(block(c.key))
		if got := r.Seal(block(c.b)); got != block(c.want) {
			t.Errorf("Seal(%s) by %s = %x, not %s", c.b, c.key, got, c.want)
		}
		if got := r.Open(block(c.want)); got != block(c.b) {
			t.Errorf("Open(%s) by %s = %x, not %s", c.want, c.key, got, c.b)
		}
	}
}

// P7.4: the Seals of many blocks by many rounds, as the chapter defines them.
func TestSealOfMany(t *testing.T) {
	l := boxes()
	for _, r := range someRounds() {
		for _, b := range someBlocks() {
			if got, want := r.Seal(b), sealed(r, b, l); got != want {
				t.Fatalf("Seal(%x) by %x = %x, not %x", b, r, got, want)
			}
		}
	}
}

// P7.4: rounds of zeros. Turn and Mix leave a block of equal bytes as it is, so
// that its bytes go ten times through the box.
func TestSealByRoundsOfZeros(t *testing.T) {
	var none cipher.Rounds
	l := boxes()
	for a := range 256 {
		want := byte(a)
		for range 10 {
			want = l[want]
		}
		if got := none.Seal(alike(byte(a))); got != alike(want) {
			t.Errorf("Seal of bytes %x by zeros = %x, not %x", a, got, alike(want))
		}
		if got := none.Open(alike(want)); got != alike(byte(a)) {
			t.Errorf("Open of bytes %x by zeros = %x, not %x", want, got, alike(byte(a)))
		}
	}
}

// P7.4: the first and the last round key are combined with the block as it comes
// in and as it goes out.
func TestSealByOneRoundKey(t *testing.T) {
	var none cipher.Rounds
	text := block("00112233445566778899aabbccddeeff")
	for _, key := range someBlocks() {
		first, final := cipher.Rounds{0: key}, cipher.Rounds{10: key}
		if got, want := first.Seal(text), none.Seal(cipher.Xor(key, text)); got != want {
			t.Errorf("Seal by a first round key %x = %x, not %x", key, got, want)
		}
		if got, want := final.Seal(text), cipher.Xor(key, none.Seal(text)); got != want {
			t.Errorf("Seal by a last round key %x = %x, not %x", key, got, want)
		}
	}
}

// P7.5: Open of Seal and Seal of Open, by any rounds.
func TestOpenOfMany(t *testing.T) {
	for _, r := range someRounds() {
		for _, b := range someBlocks() {
			if got := r.Open(r.Seal(b)); got != b {
				t.Fatalf("Open of Seal(%x) by %x = %x", b, r, got)
			}
			if got := r.Seal(r.Open(b)); got != b {
				t.Fatalf("Seal of Open(%x) by %x = %x", b, r, got)
			}
		}
	}
}

// P7.5: two blocks that differ in one bit have different Seals, by any rounds.
func TestSealsDiffer(t *testing.T) {
	blocks := []cipher.Block{{}, alike(0xff), block("00112233445566778899aabbccddeeff"), noise(13)()}
	for _, r := range someRounds() {
		for _, b := range blocks {
			from := map[cipher.Block]cipher.Block{r.Seal(b): b}
			for n := range 128 {
				other := cipher.Xor(b, bit(n))
				s := r.Seal(other)
				if same, taken := from[s]; taken {
					t.Fatalf("%x and %x both have the Seal %x by %x", same, other, s, r)
				}
				from[s] = other
			}
		}
	}
}

// P7.4, P7.5: a second call answers as the first, and the rounds stay as they are.
func TestSealAgain(t *testing.T) {
	for _, r := range someRounds() {
		before := r
		for _, b := range someBlocks()[:8] {
			s, o := r.Seal(b), r.Open(b)
			if r.Seal(b) != s || r.Open(b) != o || r != before {
				t.Fatalf("Seal or Open of %x by %x differs the second time", b, before)
			}
		}
	}
}
