package gcm_test

import (
	"fmt"
	"math"
	"strings"
	"testing"

	"padlock/api"
	"padlock/cipher"
	"padlock/gcm"
	"padlock/ghash"
)

// The keys and ivs of most tests, in hexadecimal, the first ones those of the
// chapter's example, and the second ones those of the specification of GCM.
const (
	zeroKey = "00000000000000000000000000000000"
	zeroIv  = "000000000000000000000000"
	someKey = "feffe9928665731c6d6a8f9467308308"
	someIv  = "cafebabefacedbaddecaf888"
	fullIv  = "ffffffffffffffffffffffff"
)

// Data and a text of the specification of GCM, in hexadecimal.
const (
	someAd   = "feedfacedeadbeeffeedfacedeadbeefabaddad2"
	someText = "d9313225f88406e5a55909c5aff5269a86a7a9531534f7da2e4c303d8a318a721c3c0c95956809532fcf0e2449a6b525b16aedf5aa0de657ba637b391aafd255"
)

// examples are sealed texts of known keys, ivs, data and texts, all in
// hexadecimal.
var examples = []struct{ key, iv, ad, text, secret, tag string }{
	{zeroKey, zeroIv, "", "", "", "58e2fccefa7e3061367f1d57a4e7455a"},                                                                 // of the specification of GCM, as are the next three
	{zeroKey, zeroIv, "", "00000000000000000000000000000000", "0388dace60b6a392f328c2b971b2fe78", "ab6e47d42cec13bdf53a67b21257bddf"}, // the chapter's
	{someKey, someIv, "", someText, "42831ec2217774244b7221b784d0d49ce3aa212f2c02a4e035c17e2329aca12e21d514b25466931c7d8f6a5aac84aa051ba30b396a0aac973d58e091473f5985", "4d5c2af327cd64a62cf35abd2ba6fab4"},
	{someKey, someIv, someAd, someText[:120], "42831ec2217774244b7221b784d0d49ce3aa212f2c02a4e035c17e2329aca12e21d514b25466931c7d8f6a5aac84aa051ba30b396a0aac973d58e091", "5bc94fbc3221a5db94fae95ae7121a47"},
	{someKey, someIv, someAd, "", "", "346434fd51d5cd0c5887ec63e39b907a"}, // from here on, ends of blocks in the data and in the text
	{someKey, someIv, someAd, "00", "9b", "655f6330a4098a1560130cf64ee47380"},
	{someKey, someIv, "", "d9", "42", "1264d139d18f06ec6a7cc8941d1b1919"},
	{someKey, someIv, "fe", someText[:30], "42831ec2217774244b7221b784d0d4", "483b165c49495df93ed91e77edf22b60"},
	{someKey, someIv, someAd[:32], someText[:32], "42831ec2217774244b7221b784d0d49c", "803a17709e281bcbd7e920f13cf41505"},
	{someKey, someIv, someAd[:30], someText[:34], "42831ec2217774244b7221b784d0d49ce3", "0be0f8fbf42fe7bc535a03eb45bd55ab"},
	{someKey, someIv, someAd[:34], someText[:62], "42831ec2217774244b7221b784d0d49ce3aa212f2c02a4e035c17e2329aca1", "71fd7879b7eeababaad1773ec68a9399"},
	{someKey, someIv, someText[:64], someText[:64], "42831ec2217774244b7221b784d0d49ce3aa212f2c02a4e035c17e2329aca12e", "abd440906a10259791e16cb40cea8723"},
	{someKey, fullIv, someText, someText[:66], "ae20b2e0ffa4db56e7447fc944df2431374405d12d66b72117efc92860808d40b8", "75ab56c2ff076d47b37a82091392584d"},
	{zeroKey, fullIv, "ff", fullIv, "467879126ce0982c0b8c6d41", "a267e027a06c8177adec531c81f95c37"},
}

// wrongIvs are texts of another number of bytes than 12.
func wrongIvs() []string {
	l := []string{
		"12345678901",
		"1234567890123",
		"äöüäöüäöüäöü",   // twelve characters, but 24 bytes
		"äöüäö\xc3ü",     // 13 bytes
		text(zeroIv)[1:], // 11 bytes
		text(zeroIv) + "\x00",
		text(fullIv)[1:],
		text(fullIv) + "\xff",
		strings.Repeat("x", 1<<16),
		strings.Repeat("x", 1<<16+12),
	}
	for n := range 300 {
		if n != 12 {
			l = append(l, strings.Repeat("x", n))
		}
	}
	return l
}

// text returns the bytes of hexadecimal digits.
func text(digits string) string {
	var l []byte
	_, err := fmt.Sscanf(digits, "%x", &l)
	if err != nil && digits != "" {
		panic("no bytes: " + digits)
	}
	return string(l)
}

// block returns the block of 32 hexadecimal digits.
func block(digits string) cipher.Block { return cipher.Block([]byte(text(digits))) }

// zeros returns n zero bytes.
func zeros(n int) string { return strings.Repeat("\x00", n) }

// noise returns a function that returns bytes of no pattern, the same in every run.
func noise(seed uint64) func(n int) string {
	return func(n int) string {
		l := make([]byte, n)
		for i := range l {
			seed ^= seed << 13
			seed ^= seed >> 7
			seed ^= seed << 17
			l[i] = byte(seed >> 32)
		}
		return string(l)
	}
}

// someKeys returns keys of one bit, of equal bytes, and of no pattern.
func someKeys() []cipher.Block {
	l := []cipher.Block{
		{},
		{15: 1},
		{0: 0x80},
		block(someKey),
		block("ffffffffffffffffffffffffffffffff"),
		block("000102030405060708090a0b0c0d0e0f"),
	}
	next := noise(3)
	for range 8 {
		l = append(l, cipher.Block([]byte(next(16))))
	}
	return l
}

// counterBlock is the chapter's definition, for a number that counts modulo 2^32.
func counterBlock(iv string, number uint64) cipher.Block {
	return cipher.Block([]byte(iv + text(fmt.Sprintf("%08x", number%(1<<32)))))
}

// streamed is the chapter's definition of Stream: byte i of s belongs to the
// counter block of the number from + i / 16.
func streamed(key cipher.Block, iv string, from uint32, s string) string {
	l := []byte(s)
	var secret cipher.Block
	for i := range l {
		if i%16 == 0 {
			secret = cipher.Expand(key).Seal(counterBlock(iv, uint64(from)+uint64(i/16)))
		}
		l[i] ^= secret[i%16]
	}
	return string(l)
}

// tagged is the chapter's definition of Tag.
func tagged(key cipher.Block, iv, ad, secret string) string {
	r := cipher.Expand(key)
	sum := ghash.Sum(r.Seal(cipher.Block{}), ad, secret)
	return streamed(key, iv, 1, string(sum[:]))
}

// sealed is the chapter's definition of Seal.
func sealed(key cipher.Block, iv, ad, s string) string {
	secret := streamed(key, iv, 2, s)
	return secret + tagged(key, iv, ad, secret)
}

// refused wants an error, and no text beside it.
func refused(t *testing.T, call string, got string, bad, want api.Errno) {
	t.Helper()
	if got != "" || bad != want {
		t.Errorf("%s = %x, %d, not error %d", call, got, bad, want)
	}
}

// answered wants a text, and no error beside it.
func answered(t *testing.T, call string, got string, bad api.Errno, want string) {
	t.Helper()
	if got != want || bad != api.OK {
		t.Errorf("%s = %x, %d, not %x", call, got, bad, want)
	}
}

// P9.1: Hash of known keys.
func TestHash(t *testing.T) {
	cases := []struct{ key, want string }{
		{zeroKey, "66e94bd4ef8a2c3b884cfa59ca342b2e"},
		{someKey, "b83b533708bf535d0aa6e52980d53b78"},
		{"80000000000000000000000000000000", "0edd33d3c621e546455bd8ba1418bec8"},
		{"ffffffffffffffffffffffffffffffff", "a1f6258c877d5fcd8964484538bfc92c"},
	}
	for _, c := range cases {
		if got := gcm.Hash(block(c.key)); got != block(c.want) {
			t.Errorf("Hash(%s) = %x, not %s", c.key, got, c.want)
		}
	}
}

// P9.1: Hash of many keys: what the cipher opens to the zero block.
func TestHashOfMany(t *testing.T) {
	for _, key := range someKeys() {
		if got := cipher.Expand(key).Open(gcm.Hash(key)); got != (cipher.Block{}) {
			t.Errorf("Hash(%x) opens to %x", key, got)
		}
	}
}

// P9.2: the key stream of known keys and ivs. The numbers that follow 2^32 - 1
// begin again at 0, and leave the iv as it is.
func TestStream(t *testing.T) {
	cases := []struct {
		key, iv string
		from    uint32
		want    string
	}{
		{zeroKey, zeroIv, 0, "66e94bd4ef8a2c3b884cfa59ca342b2e 58e2fccefa7e3061367f1d57a4e7455a 0388dace60b6a392f328c2b971b2fe78"},
		{someKey, someIv, 0, "1f42493d7509221ca0b22c8f44cd8c05 3247184b3c4f69a44dbcd22887bbb418 9bb22ce7d9f372c1ee2b28722b25f206"},
		{someKey, someIv, 2, "9bb22ce7d9f372c1ee2b28722b25f206 650d887c3936533a1b8d4e1ea39d2b5c 3de91827c10e9a4f5240647ee5221f20 aac9e6ccc0074ac0873b9ba85d908bd0"},
		{zeroKey, zeroIv, 255, "f70ddef93ba62588242a0e67d0d645e0 fb56cc09b680b1d07c5a52149e29f07c"},
		{someKey, someIv, 65535, "2527f62bebc4816ab120900945541386 6090a829432c9f6cfa596fdd518a159a"},
		{someKey, someIv, 1<<24 - 1, "fc26a751f2a1ccb61dcf43a93df71e61 b8df1b243b07614ac2d26578bea93b5b"},
		{someKey, fullIv, 1<<31 - 1, "9b99688ec38634a32cbc7bdd51e35117 06e6e445f2e3c67658ee90cfacc3b1b3"},
		{zeroKey, zeroIv, 1<<32 - 2, "2bdcf387424732cbef019d2bc2c03743 28c16380c491088ca019f8a76853b1e8 66e94bd4ef8a2c3b884cfa59ca342b2e 58e2fccefa7e3061367f1d57a4e7455a"},
		{someKey, someIv, 1<<32 - 2, "55f02210b1b507ed23ad2f82371e9319 aecee39f9b35475f5e77f2f733690374 1f42493d7509221ca0b22c8f44cd8c05 3247184b3c4f69a44dbcd22887bbb418"},
		{someKey, fullIv, 1<<32 - 1, "c06388d524637cced312c0961533cd99 31316bf8a5a11493d187871e3dbf6768 2f4a6840731461dc32aea8815d87df44 771180c50720ddb3421d760ceb2a02ab"},
	}
	for _, c := range cases {
		want := text(strings.ReplaceAll(c.want, " ", ""))
		for n := range len(want) + 1 {
			got, bad := gcm.Stream(block(c.key), text(c.iv), c.from, zeros(n))
			answered(t, fmt.Sprintf("Stream by %s and %s from %d of %d zero bytes", c.key, c.iv, c.from, n), got, bad, want[:n])
		}
	}
}

// P9.2: Stream of known texts, one of the chapter's example.
func TestStreamOfTexts(t *testing.T) {
	for _, c := range examples {
		got, bad := gcm.Stream(block(c.key), text(c.iv), 2, text(c.text))
		answered(t, fmt.Sprintf("Stream of %s", c.text), got, bad, text(c.secret))
		got, bad = gcm.Stream(block(c.key), text(c.iv), 2, text(c.secret))
		answered(t, fmt.Sprintf("Stream of %s", c.secret), got, bad, text(c.text))
	}
}

// P9.2: Stream of an empty text, from any number.
func TestStreamOfNothing(t *testing.T) {
	for _, from := range []uint32{0, 1, 2, 1 << 31, math.MaxUint32} {
		got, bad := gcm.Stream(block(someKey), text(someIv), from, "")
		answered(t, fmt.Sprintf("Stream from %d of nothing", from), got, bad, "")
	}
}

// P9.2: Stream of texts of 0 to 70 bytes, from some numbers, as the chapter
// defines it; the Stream of that is the text again.
func TestStreamOfMany(t *testing.T) {
	next := noise(5)
	froms := []uint32{0, 1, 2, 254, 255, 1<<16 - 2, 1<<24 - 3, 1<<31 - 1, 1<<32 - 3, 1<<32 - 2, 1<<32 - 1}
	for n := range 71 {
		for _, from := range froms {
			key, iv, s := cipher.Block([]byte(next(16))), next(12), next(n)
			call := fmt.Sprintf("Stream(%x, %x, %d, %x)", key, iv, from, s)
			got, bad := gcm.Stream(key, iv, from, s)
			answered(t, call, got, bad, streamed(key, iv, from, s))
			again, bad := gcm.Stream(key, iv, from, got)
			answered(t, "Stream of "+call, again, bad, s)
		}
	}
}

// P9.2: Stream of a long text, past the end of the numbers, is that of its parts.
func TestStreamOfParts(t *testing.T) {
	const from = 1<<32 - 300
	s := noise(7)(16*600 + 5)
	whole, bad := gcm.Stream(block(someKey), text(someIv), from, s)
	answered(t, "Stream of all", whole, bad, streamed(block(someKey), text(someIv), from, s))
	for i := 0; i < len(s); i += 16 {
		number, end := uint32((from+i/16)%(1<<32)), min(i+16, len(s))
		got, bad := gcm.Stream(block(someKey), text(someIv), number, s[i:end])
		answered(t, fmt.Sprintf("Stream from %d", number), got, bad, whole[i:end])
	}
}

// P9.3: Tag of known data and encrypted texts.
func TestTag(t *testing.T) {
	for _, c := range examples {
		got, bad := gcm.Tag(block(c.key), text(c.iv), text(c.ad), text(c.secret))
		answered(t, fmt.Sprintf("Tag of %s and %s", c.ad, c.secret), got, bad, text(c.tag))
	}
}

// P9.3: Tag of empty texts is the encrypted counter block of 1.
func TestTagOfNothing(t *testing.T) {
	cases := []struct{ key, iv, want string }{
		{zeroKey, zeroIv, "58e2fccefa7e3061367f1d57a4e7455a"},
		{someKey, someIv, "3247184b3c4f69a44dbcd22887bbb418"},
		{someKey, fullIv, "2f4a6840731461dc32aea8815d87df44"},
	}
	for _, c := range cases {
		got, bad := gcm.Tag(block(c.key), text(c.iv), "", "")
		answered(t, "Tag of nothing by "+c.key, got, bad, text(c.want))
	}
	next := noise(9)
	for _, key := range someKeys() {
		iv := next(12)
		got, bad := gcm.Tag(key, iv, "", "")
		answered(t, fmt.Sprintf("Tag of nothing by %x", key), got, bad, streamed(key, iv, 1, zeros(16)))
	}
}

// P9.3: Tag of data alone, of a text alone and of both, as the chapter defines it.
func TestTagOfMany(t *testing.T) {
	next := noise(11)
	for n := range 36 {
		for _, m := range []int{0, 1, 15, 16, 17, 32, 48} {
			key, iv, ad, s := cipher.Block([]byte(next(16))), next(12), next(n), next(m)
			for _, pair := range [][2]string{{ad, s}, {s, ad}, {ad, ad}, {"", ad}, {ad, ""}} {
				got, bad := gcm.Tag(key, iv, pair[0], pair[1])
				answered(t, fmt.Sprintf("Tag(%x, %x, %x, %x)", key, iv, pair[0], pair[1]), got, bad, tagged(key, iv, pair[0], pair[1]))
			}
		}
	}
}

// P9.4: Seal of known texts.
func TestSeal(t *testing.T) {
	for _, c := range examples {
		got, bad := gcm.Seal(block(c.key), text(c.iv), text(c.ad), text(c.text))
		answered(t, fmt.Sprintf("Seal of %s and %s", c.ad, c.text), got, bad, text(c.secret+c.tag))
	}
}

// P9.4, P9.6: Seal of texts of 0 to 70 bytes is what Stream and Tag return, and
// what the chapter defines; Overhead bytes longer than the text; and opened again.
func TestSealOfMany(t *testing.T) {
	next := noise(13)
	for n := range 71 {
		for _, m := range []int{0, 1, 12, 15, 16, 17, 33} {
			key, iv, ad, s := cipher.Block([]byte(next(16))), next(12), next(m), next(n)
			call := fmt.Sprintf("Seal(%x, %x, %x, %x)", key, iv, ad, s)
			got, bad := gcm.Seal(key, iv, ad, s)
			answered(t, call, got, bad, sealed(key, iv, ad, s))
			secret, _ := gcm.Stream(key, iv, 2, s)
			tag, _ := gcm.Tag(key, iv, ad, secret)
			answered(t, call, got, bad, secret+tag)
			if len(got) != n+gcm.Overhead {
				t.Errorf("%s has %d bytes", call, len(got))
			}
			back, bad := gcm.Open(key, iv, ad, got)
			answered(t, "Open of "+call, back, bad, s)
		}
	}
}

// P9.4, P9.6: a long text is sealed and opened, and has more blocks than a byte of
// the number counts.
func TestSealOfALongText(t *testing.T) {
	s := noise(15)(16*300 + 7)
	got, bad := gcm.Seal(block(someKey), text(someIv), s, s)
	answered(t, "Seal of a long text", got, bad, sealed(block(someKey), text(someIv), s, s))
	back, bad := gcm.Open(block(someKey), text(someIv), s, got)
	answered(t, "Open of a long text", back, bad, s)
}

// P9.5: Open of known texts, the empty one among them, whose sealed text is the
// 16 bytes of the Tag alone.
func TestOpen(t *testing.T) {
	for _, c := range examples {
		got, bad := gcm.Open(block(c.key), text(c.iv), text(c.ad), text(c.secret+c.tag))
		answered(t, fmt.Sprintf("Open of %s and %s", c.ad, c.secret), got, bad, text(c.text))
	}
}

// P9.2 to P9.5: an iv of 12 bytes, whatever they are.
func TestIvs(t *testing.T) {
	key := block(someKey)
	for _, iv := range []string{"123456789012", "äöüäöü", "\xff\xfe\xc0\x80\x00\n\r\t \"%\x7f", text(zeroIv), text(fullIv)} {
		got, bad := gcm.Stream(key, iv, 2, "abc")
		answered(t, fmt.Sprintf("Stream by %q", iv), got, bad, streamed(key, iv, 2, "abc"))
		got, bad = gcm.Tag(key, iv, "ad", "abc")
		answered(t, fmt.Sprintf("Tag by %q", iv), got, bad, tagged(key, iv, "ad", "abc"))
		got, bad = gcm.Seal(key, iv, "ad", "abc")
		answered(t, fmt.Sprintf("Seal by %q", iv), got, bad, sealed(key, iv, "ad", "abc"))
		got, bad = gcm.Open(key, iv, "ad", got)
		answered(t, fmt.Sprintf("Open by %q", iv), got, bad, "abc")
	}
}

// P9.2 to P9.5: an iv of another number of bytes. Open returns its error also for
// a sealed text that is too short, or of another Tag.
func TestWrongIvs(t *testing.T) {
	right, _ := gcm.Seal(block(someKey), text(someIv), "ad", "abc")
	for _, iv := range wrongIvs() {
		by := fmt.Sprintf(" by an iv of %d bytes", len(iv))
		for _, s := range []string{"", "a", zeros(15), zeros(16), zeros(17), right} {
			got, bad := gcm.Stream(block(someKey), iv, 2, s)
			refused(t, "Stream"+by, got, bad, api.ErrArg)
			got, bad = gcm.Tag(block(someKey), iv, "ad", s)
			refused(t, "Tag"+by, got, bad, api.ErrArg)
			got, bad = gcm.Tag(block(someKey), iv, "", s)
			refused(t, "Tag"+by, got, bad, api.ErrArg)
			got, bad = gcm.Seal(block(someKey), iv, "ad", s)
			refused(t, "Seal"+by, got, bad, api.ErrArg)
			got, bad = gcm.Open(block(someKey), iv, "ad", s)
			refused(t, "Open"+by, got, bad, api.ErrArg)
		}
	}
}

// P9.5: Open of fewer than 16 bytes, which are no text's Tag either.
func TestOpenOfShortTexts(t *testing.T) {
	right, _ := gcm.Seal(block(someKey), text(someIv), "ad", "")
	for n := range 16 {
		for _, s := range []string{right[:n], right[16-n:], zeros(n)} {
			got, bad := gcm.Open(block(someKey), text(someIv), "ad", s)
			refused(t, fmt.Sprintf("Open of %d bytes", n), got, bad, api.ErrShort)
		}
	}
	got, bad := gcm.Open(block(someKey), text(someIv), "ad", right)
	answered(t, "Open of 16 bytes", got, bad, "")
}

// P9.5: Open of 16 bytes and more that were not sealed by this key, this iv and
// for this data; of a part of what was sealed; and of more than that.
func TestOpenOfOthers(t *testing.T) {
	key, iv := block(someKey), text(someIv)
	for _, n := range []int{0, 1, 15, 16, 17, 40} {
		s := noise(17)(n)
		right, _ := gcm.Seal(key, iv, "ad", s)
		open := func(what string, key cipher.Block, iv, ad, sealed string) {
			t.Helper()
			got, bad := gcm.Open(key, iv, ad, sealed)
			refused(t, fmt.Sprintf("Open of %d bytes, with %s", n, what), got, bad, api.ErrKey)
		}
		open("another key", block(zeroKey), iv, "ad", right)
		open("another iv", key, text(fullIv), "ad", right)
		open("no data", key, iv, "", right)
		open("a part of the data", key, iv, "a", right)
		open("more data", key, iv, "ad\x00", right)
		open("a byte behind", key, iv, "ad", right+"\x00")
		open("a byte before", key, iv, "ad", "\x00"+right)
		open("its blocks behind", key, iv, "ad", right+right)
		open("zero bytes instead", key, iv, "ad", zeros(n+16))
		open("any tag", key, iv, "ad", right[:n]+noise(19)(16))
		if n > 0 {
			open("the text instead", key, iv, "ad", s+right[n:])
			open("the tag before", key, iv, "ad", right[n:]+right[:n])
		}
		for cut := 1; cut <= n; cut++ {
			open("bytes cut off behind", key, iv, "ad", right[:len(right)-cut])
			open("bytes cut off before", key, iv, "ad", right[cut:])
			open("bytes cut off before the tag", key, iv, "ad", right[:n-cut]+right[n:])
		}
	}
}

// P9.6: each byte of the sealed text, or of its data, changed in one bit or in all.
func TestOpenOfChanged(t *testing.T) {
	for _, key := range someKeys()[:4] {
		if gcm.Hash(key) == (cipher.Block{}) {
			t.Fatalf("Hash(%x) is zero", key)
		}
		for _, lengths := range [][2]int{{0, 0}, {1, 0}, {0, 1}, {15, 17}, {16, 16}, {17, 15}, {33, 49}} {
			next := noise(21)
			ad, s := next(lengths[0]), next(lengths[1])
			right, _ := gcm.Seal(key, text(someIv), ad, s)
			for changed := range changes(right) {
				got, bad := gcm.Open(key, text(someIv), ad, changed)
				refused(t, fmt.Sprintf("Open of %x, not %x", changed, right), got, bad, api.ErrKey)
			}
			for changed := range changes(ad) {
				got, bad := gcm.Open(key, text(someIv), changed, right)
				refused(t, fmt.Sprintf("Open with %x, not %x", changed, ad), got, bad, api.ErrKey)
			}
			got, bad := gcm.Open(key, text(someIv), ad, right)
			answered(t, "Open of what is not changed", got, bad, s)
		}
	}
}

// changes returns the texts that differ from s in one byte, in one of its bits or
// in all of them.
func changes(s string) func(yield func(string) bool) {
	return func(yield func(string) bool) {
		for i := range len(s) {
			for _, bits := range []byte{1, 2, 4, 8, 16, 32, 64, 128, 255} {
				l := []byte(s)
				l[i] ^= bits
				if !yield(string(l)) {
					return
				}
			}
		}
	}
}

// P9.2 to P9.5: a call answers the same whatever was asked before.
func TestCallsAgain(t *testing.T) {
	next := noise(23)
	for _, key := range someKeys() {
		iv, ad, s := next(12), next(20), next(40)
		first, _ := gcm.Seal(key, iv, ad, s)
		tag, _ := gcm.Tag(key, iv, ad, s)
		stream, _ := gcm.Stream(key, iv, 2, s)
		hash := gcm.Hash(key)
		for range 3 {
			gcm.Seal(block(zeroKey), next(12), next(3), next(50))
			gcm.Open(key, iv, ad, next(50))
			got, bad := gcm.Seal(key, iv, ad, s)
			answered(t, "Seal again", got, bad, first)
			got, bad = gcm.Open(key, iv, ad, first)
			answered(t, "Open again", got, bad, s)
			got, bad = gcm.Tag(key, iv, ad, s)
			answered(t, "Tag again", got, bad, tag)
			got, bad = gcm.Stream(key, iv, 2, s)
			answered(t, "Stream again", got, bad, stream)
			if gcm.Hash(key) != hash {
				t.Errorf("Hash(%x) differs the second time", key)
			}
		}
	}
}

// P9.4: a sealed text is 16 bytes longer than the text.
func TestOverhead(t *testing.T) {
	if gcm.Overhead != 16 {
		t.Errorf("Overhead is %d", gcm.Overhead)
	}
}
