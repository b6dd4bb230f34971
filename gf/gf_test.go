package gf_test

import (
	"math"
	"slices"
	"testing"

	"padlock/gf"
)

// product is the chapter's definition: the polynomials are multiplied as lists
// of coefficients, and the terms above x^7 are then replaced, the highest first,
// by what x^8 is modulo x^8 + x^4 + x^3 + x + 1.
func product(a, b byte) byte {
	var terms [15]int
	for i := range 8 {
		for j := range 8 {
			terms[i+j] += int(a>>i&1) * int(b>>j&1)
		}
	}
	for i := len(terms) - 1; i >= 8; i-- {
		for _, term := range []int{4, 3, 1, 0} {
			terms[i-8+term] += terms[i]
		}
	}
	value := 0
	for i := 7; i >= 0; i-- {
		value = 2*value + terms[i]%2
	}
	return byte(value)
}

// products returns what Mul answers for all factors.
func products() *[256][256]byte {
	var p [256][256]byte
	for a := range p {
		for b := range p[a] {
			p[a][b] = gf.Mul(byte(a), byte(b))
		}
	}
	return &p
}

// inverse finds the byte whose product with a is 1, and is 0 if there is none.
func inverse(a byte) byte {
	for b := range 256 {
		if product(a, byte(b)) == 1 {
			return byte(b)
		}
	}
	return 0
}

// box is the chapter's definition, with the rotations as multiplications modulo 255.
func box(a byte) byte {
	mixed := 0x63
	for i := range 5 {
		turned := int(inverse(a)) << i
		mixed ^= turned/256 + turned%256
	}
	return byte(mixed)
}

// boxes are the Boxes of all bytes, as the standard of AES prints them.
var boxes = [256]byte{
	0x63, 0x7c, 0x77, 0x7b, 0xf2, 0x6b, 0x6f, 0xc5, 0x30, 0x01, 0x67, 0x2b, 0xfe, 0xd7, 0xab, 0x76,
	0xca, 0x82, 0xc9, 0x7d, 0xfa, 0x59, 0x47, 0xf0, 0xad, 0xd4, 0xa2, 0xaf, 0x9c, 0xa4, 0x72, 0xc0,
	0xb7, 0xfd, 0x93, 0x26, 0x36, 0x3f, 0xf7, 0xcc, 0x34, 0xa5, 0xe5, 0xf1, 0x71, 0xd8, 0x31, 0x15,
	0x04, 0xc7, 0x23, 0xc3, 0x18, 0x96, 0x05, 0x9a, 0x07, 0x12, 0x80, 0xe2, 0xeb, 0x27, 0xb2, 0x75,
	0x09, 0x83, 0x2c, 0x1a, 0x1b, 0x6e, 0x5a, 0xa0, 0x52, 0x3b, 0xd6, 0xb3, 0x29, 0xe3, 0x2f, 0x84,
	0x53, 0xd1, 0x00, 0xed, 0x20, 0xfc, 0xb1, 0x5b, 0x6a, 0xcb, 0xbe, 0x39, 0x4a, 0x4c, 0x58, 0xcf,
	0xd0, 0xef, 0xaa, 0xfb, 0x43, 0x4d, 0x33, 0x85, 0x45, 0xf9, 0x02, 0x7f, 0x50, 0x3c, 0x9f, 0xa8,
	0x51, 0xa3, 0x40, 0x8f, 0x92, 0x9d, 0x38, 0xf5, 0xbc, 0xb6, 0xda, 0x21, 0x10, 0xff, 0xf3, 0xd2,
	0xcd, 0x0c, 0x13, 0xec, 0x5f, 0x97, 0x44, 0x17, 0xc4, 0xa7, 0x7e, 0x3d, 0x64, 0x5d, 0x19, 0x73,
	0x60, 0x81, 0x4f, 0xdc, 0x22, 0x2a, 0x90, 0x88, 0x46, 0xee, 0xb8, 0x14, 0xde, 0x5e, 0x0b, 0xdb,
	0xe0, 0x32, 0x3a, 0x0a, 0x49, 0x06, 0x24, 0x5c, 0xc2, 0xd3, 0xac, 0x62, 0x91, 0x95, 0xe4, 0x79,
	0xe7, 0xc8, 0x37, 0x6d, 0x8d, 0xd5, 0x4e, 0xa9, 0x6c, 0x56, 0xf4, 0xea, 0x65, 0x7a, 0xae, 0x08,
	0xba, 0x78, 0x25, 0x2e, 0x1c, 0xa6, 0xb4, 0xc6, 0xe8, 0xdd, 0x74, 0x1f, 0x4b, 0xbd, 0x8b, 0x8a,
	0x70, 0x3e, 0xb5, 0x66, 0x48, 0x03, 0xf6, 0x0e, 0x61, 0x35, 0x57, 0xb9, 0x86, 0xc1, 0x1d, 0x9e,
	0xe1, 0xf8, 0x98, 0x11, 0x69, 0xd9, 0x8e, 0x94, 0x9b, 0x1e, 0x87, 0xe9, 0xce, 0x55, 0x28, 0xdf,
	0x8c, 0xa1, 0x89, 0x0d, 0xbf, 0xe6, 0x42, 0x68, 0x41, 0x99, 0x2d, 0x0f, 0xb0, 0x54, 0xbb, 0x16,
}

// mixes are columns with what Mix answers for them.
var mixes = []struct{ c, mixed [4]byte }{
	{[4]byte{0xdb, 0x13, 0x53, 0x45}, [4]byte{0x8e, 0x4d, 0xa1, 0xbc}}, // the chapter's
	{[4]byte{0xf2, 0x0a, 0x22, 0x5c}, [4]byte{0x9f, 0xdc, 0x58, 0x9d}},
	{[4]byte{0xd4, 0xbf, 0x5d, 0x30}, [4]byte{0x04, 0x66, 0x81, 0xe5}},
	{[4]byte{0xd4, 0xd4, 0xd4, 0xd5}, [4]byte{0xd5, 0xd5, 0xd7, 0xd6}},
	{[4]byte{0x2d, 0x26, 0x31, 0x4c}, [4]byte{0x4d, 0x7e, 0xbd, 0xf8}},
	{[4]byte{0, 0, 0, 0}, [4]byte{0, 0, 0, 0}},
	{[4]byte{1, 0, 0, 0}, [4]byte{2, 1, 1, 3}},
	{[4]byte{0, 1, 0, 0}, [4]byte{3, 2, 1, 1}},
	{[4]byte{0, 0, 1, 0}, [4]byte{1, 3, 2, 1}},
	{[4]byte{0, 0, 0, 1}, [4]byte{1, 1, 3, 2}},
	{[4]byte{0x80, 0, 0, 0}, [4]byte{0x1b, 0x80, 0x80, 0x9b}},
	{[4]byte{0, 0xff, 0, 0xff}, [4]byte{0xe5, 0x1a, 0xe5, 0x1a}},
	{[4]byte{1, 1, 0, 0}, [4]byte{1, 3, 0, 2}},
	{[4]byte{1, 1, 1, 1}, [4]byte{1, 1, 1, 1}},
	{[4]byte{0xc6, 0xc6, 0xc6, 0xc6}, [4]byte{0xc6, 0xc6, 0xc6, 0xc6}},
	{[4]byte{0xff, 0xff, 0xff, 0xff}, [4]byte{0xff, 0xff, 0xff, 0xff}},
}

// columns returns columns of one byte beside zeros, each value at each place,
// columns of equal bytes, and many of no pattern.
func columns() [][4]byte {
	var l [][4]byte
	for i := range 256 {
		a := byte(i)
		l = append(l, [4]byte{a}, [4]byte{1: a}, [4]byte{2: a}, [4]byte{3: a}, [4]byte{a, a, a, a})
		l = append(l, [4]byte{a, a}, [4]byte{0, a, 0, a}, [4]byte{a, 0, a, a})
	}
	for i := range uint32(20000) {
		x := i * 0x9e3779b1
		l = append(l, [4]byte{byte(x >> 24), byte(x >> 16), byte(x >> 8), byte(x)})
	}
	return l
}

// P6.1: Mul.
func TestMul(t *testing.T) {
	cases := []struct{ a, b, want byte }{
		{0x57, 0x83, 0xc1}, // the chapter's
		{0x83, 0x57, 0xc1},
		{0x57, 0x13, 0xfe},
		{0x57, 0x02, 0xae},
		{0x57, 0x04, 0x47},
		{0x57, 0x08, 0x8e},
		{0x57, 0x10, 0x07},
		{0x53, 0xca, 0x01},
		{2, 0x7f, 0xfe},
		{2, 0x80, 0x1b}, // the first that is reduced
		{0x80, 2, 0x1b},
		{2, 0xff, 0xe5},
		{3, 3, 5},
		{0x80, 0x80, 0x9a},
		{0xff, 0xff, 0x13},
	}
	for _, c := range cases {
		if got := gf.Mul(c.a, c.b); got != c.want {
			t.Errorf("Mul(%x, %x) = %x, not %x", c.a, c.b, got, c.want)
		}
	}
}

// P6.1: Mul by 0 and by 1, either way round.
func TestMulByZeroAndOne(t *testing.T) {
	for i := range 256 {
		a := byte(i)
		if gf.Mul(a, 0) != 0 || gf.Mul(0, a) != 0 {
			t.Errorf("%x by 0: %x, %x", a, gf.Mul(a, 0), gf.Mul(0, a))
		}
		if gf.Mul(a, 1) != a || gf.Mul(1, a) != a {
			t.Errorf("%x by 1: %x, %x", a, gf.Mul(a, 1), gf.Mul(1, a))
		}
	}
}

// P6.1: Mul of all factors.
func TestMulOfAll(t *testing.T) {
	for a := range 256 {
		for b := range 256 {
			if got, want := gf.Mul(byte(a), byte(b)), product(byte(a), byte(b)); got != want {
				t.Fatalf("Mul(%x, %x) = %x, not %x", a, b, got, want)
			}
		}
	}
}

// P6.1: Pow.
func TestPow(t *testing.T) {
	cases := []struct {
		a    byte
		n    uint64
		want byte
	}{
		{0, 0, 1}, // no factor
		{1, 0, 1},
		{2, 0, 1},
		{0xff, 0, 1},
		{0, 1, 0},
		{0, 2, 0},
		{0, 255, 0},
		{0, 256, 0},
		{0, 1 << 63, 0},
		{0, math.MaxUint64, 0},
		{1, 1, 1},
		{1, math.MaxUint64, 1},
		{2, 1, 2},
		{2, 7, 0x80},
		{2, 8, 0x1b},
		{2, 51, 1}, // 2 has the order 51
		{3, 2, 5},
		{3, 254, 0xf6},
		{3, 255, 1}, // 3 has the order 255
		{3, 256, 3},
		{3, 257, 5},
		{3, 1 << 32, 3},
		{3, 1<<32 + 1, 5},
		{3, 1 << 63, 0xfb},     // as with 128: 255 divides 2^63 - 128
		{3, math.MaxUint64, 1}, // 255 divides it
		{3, math.MaxUint64 - 1, 0xf6},
		{0x53, 2, 0xb5},
		{0x53, math.MaxUint64 - 1, 0xca},
		{0xff, 255, 1},
	}
	for _, c := range cases {
		if got := gf.Pow(c.a, c.n); got != c.want {
			t.Errorf("Pow(%x, %d) = %x, not %x", c.a, c.n, got, c.want)
		}
	}
}

// P6.1: Pow of up to 600 factors, one after the other.
func TestPowOfFew(t *testing.T) {
	for i := range 256 {
		a, want := byte(i), byte(1)
		for n := range uint64(600) {
			if got := gf.Pow(a, n); got != want {
				t.Fatalf("Pow(%x, %d) = %x, not %x", a, n, got, want)
			}
			want = product(want, a)
		}
	}
}

// P6.1: Pow of many factors: 255 of one that is not 0 make 1, and may be left out.
func TestPowOfMany(t *testing.T) {
	counts := []uint64{255, 1 << 40 * 255, 256, math.MaxUint64, math.MaxUint64 - 1, math.MaxUint64 / 2, math.MaxUint64 - 254}
	for i := range 64 {
		counts = append(counts, 1<<i, 1<<i-1, math.MaxUint64^1<<i)
	}
	for i := range uint64(50) {
		counts = append(counts, i*0x9e3779b97f4a7c15)
	}
	for i := range 256 {
		for _, n := range counts {
			a, want := byte(i), byte(1)
			for range n % 255 {
				want = product(want, a)
			}
			if a == 0 && n > 0 {
				want = 0
			}
			if got := gf.Pow(a, n); got != want {
				t.Fatalf("Pow(%x, %d) = %x, not %x", a, n, got, want)
			}
		}
	}
}

// P6.1: Inv.
func TestInv(t *testing.T) {
	cases := []struct{ a, want byte }{
		{0, 0}, {1, 1}, {2, 0x8d}, {0x8d, 2}, {3, 0xf6}, {0x53, 0xca}, {0xca, 0x53}, {0x80, 0x83}, {0xff, 0x1c},
	}
	for _, c := range cases {
		if got := gf.Inv(c.a); got != c.want {
			t.Errorf("Inv(%x) = %x, not %x", c.a, got, c.want)
		}
	}
}

// P6.1, P6.4: Inv of each byte: each but 0 has an inverse.
func TestInvOfAll(t *testing.T) {
	for i := range 256 {
		a := byte(i)
		if got, want := gf.Inv(a), inverse(a); got != want {
			t.Errorf("Inv(%x) = %x, not %x", a, got, want)
		}
		if a == 0 {
			continue
		}
		if got := gf.Mul(a, gf.Inv(a)); got != 1 {
			t.Errorf("%x by its inverse = %x", a, got)
		}
		if got := gf.Mul(gf.Inv(a), a); got != 1 {
			t.Errorf("the inverse of %x by it = %x", a, got)
		}
		if got := gf.Inv(gf.Inv(a)); got != a {
			t.Errorf("Inv of Inv(%x) = %x", a, got)
		}
	}
}

// P6.2: Box of each byte: as the standard prints it, and as the chapter defines it.
func TestBox(t *testing.T) {
	if gf.Box(0) != 0x63 || gf.Box(0x53) != 0xed { // the chapter's
		t.Errorf("Box of 0 and 53: %x, %x", gf.Box(0), gf.Box(0x53))
	}
	for i, want := range boxes {
		if got := gf.Box(byte(i)); got != want || got != box(byte(i)) {
			t.Errorf("Box(%x) = %x, not %x, %x", i, got, want, box(byte(i)))
		}
	}
}

// P6.2: Unbox of each byte.
func TestUnbox(t *testing.T) {
	if gf.Unbox(0x63) != 0 || gf.Unbox(0xed) != 0x53 || gf.Unbox(0) != 0x52 {
		t.Errorf("Unbox of 63, ed and 0: %x, %x, %x", gf.Unbox(0x63), gf.Unbox(0xed), gf.Unbox(0))
	}
	for i := range 256 {
		a := byte(i)
		if got, want := gf.Unbox(a), byte(slices.Index(boxes[:], a)); got != want {
			t.Errorf("Unbox(%x) = %x, not %x", a, got, want)
		}
		if got := gf.Unbox(gf.Box(a)); got != a {
			t.Errorf("Unbox of Box(%x) = %x", a, got)
		}
		if got := gf.Box(gf.Unbox(a)); got != a {
			t.Errorf("Box of Unbox(%x) = %x", a, got)
		}
	}
}

// P6.2, P6.4: no two bytes have one Box.
func TestBoxesDiffer(t *testing.T) {
	from := map[byte]int{}
	for a := range 256 {
		boxed := gf.Box(byte(a))
		if b, taken := from[boxed]; taken {
			t.Errorf("%x and %x both have the Box %x", b, a, boxed)
		}
		from[boxed] = a
	}
}

// P6.3: Mix, and Unmix of what it answers.
func TestMix(t *testing.T) {
	for _, c := range mixes {
		if got := gf.Mix(c.c); got != c.mixed {
			t.Errorf("Mix(%x) = %x, not %x", c.c, got, c.mixed)
		}
		if got := gf.Unmix(c.mixed); got != c.c {
			t.Errorf("Unmix(%x) = %x, not %x", c.mixed, got, c.c)
		}
	}
}

// P6.3: Mix of many columns, as the chapter defines it.
func TestMixOfMany(t *testing.T) {
	for _, c := range columns() {
		p, q, r, s := c[0], c[1], c[2], c[3]
		want := [4]byte{
			product(2, p) ^ product(3, q) ^ r ^ s,
			p ^ product(2, q) ^ product(3, r) ^ s,
			p ^ q ^ product(2, r) ^ product(3, s),
			product(3, p) ^ q ^ r ^ product(2, s),
		}
		if got := gf.Mix(c); got != want {
			t.Fatalf("Mix(%x) = %x, not %x", c, got, want)
		}
	}
}

// P6.3: Mix and Unmix of many columns, either way round.
func TestUnmixOfMany(t *testing.T) {
	for _, c := range columns() {
		if got := gf.Unmix(gf.Mix(c)); got != c {
			t.Fatalf("Unmix of Mix(%x) = %x", c, got)
		}
		if got := gf.Mix(gf.Unmix(c)); got != c {
			t.Fatalf("Mix of Unmix(%x) = %x", c, got)
		}
	}
}

// P6.4: the product does not hang on the order of the factors.
func TestMulCommutes(t *testing.T) {
	for a := range 256 {
		for b := range a {
			if ab, ba := gf.Mul(byte(a), byte(b)), gf.Mul(byte(b), byte(a)); ab != ba {
				t.Fatalf("%x by %x = %x, but the other way round %x", a, b, ab, ba)
			}
		}
	}
}

// P6.4: the product does not hang on the brackets.
func TestMulAssociates(t *testing.T) {
	p := products()
	for a := range 256 {
		for b := range 256 {
			for c := range 256 {
				if left, right := p[p[a][b]][c], p[a][p[b][c]]; left != right {
					t.Fatalf("(%x %x) %x = %x, but %x (%x %x) = %x", a, b, c, left, a, b, c, right)
				}
			}
		}
	}
}

// P6.4: the product goes into sums, on either side.
func TestMulDistributes(t *testing.T) {
	p := products()
	for a := range 256 {
		for b := range 256 {
			for c := range 256 {
				if whole, parts := p[a][b^c], p[a][b]^p[a][c]; whole != parts {
					t.Fatalf("%x (%x + %x) = %x, not %x", a, b, c, whole, parts)
				}
				if whole, parts := p[b^c][a], p[b][a]^p[c][a]; whole != parts {
					t.Fatalf("(%x + %x) %x = %x, not %x", b, c, a, whole, parts)
				}
			}
		}
	}
}
