package mac_test

import (
	"bytes"
	"crypto/hkdf"
	"crypto/hmac"
	"crypto/sha256"
	"encoding/binary"
	"encoding/hex"
	"math"
	"math/rand/v2"
	"slices"
	"strings"
	"testing"
	"time"

	"seneschal/api"
	"seneschal/mac"
)

const most = 8160 // bytes that can be expanded

// keyLengths are those around the edges: none, a digest, a block, and far beyond.
var keyLengths = []int{0, 1, 2, 31, 32, 33, 63, 64, 65, 66, 127, 128, 129, 1000}

// drawn answers n bytes, the same each time.
func drawn(seed uint64, n int) []byte {
	r := rand.New(rand.NewPCG(seed, 5))
	b := make([]byte, n)
	for i := range b {
		b[i] = byte(r.Uint32())
	}
	return b
}

// sum is HMAC by the library.
func sum(key []byte, l ...[]byte) [32]byte {
	h := hmac.New(sha256.New, key)
	for _, b := range l {
		h.Write(b)
	}
	return [32]byte(h.Sum(nil))
}

// lengthsAhead answers all parts as bytes, each with its length ahead.
func lengthsAhead(l ...[]byte) []byte {
	var out []byte
	for _, b := range l {
		out = binary.BigEndian.AppendUint32(out, uint32(len(b)))
		out = append(out, b...)
	}
	return out
}

// unhex answers the bytes of a text.
func unhex(t *testing.T, text string) []byte {
	t.Helper()
	b, err := hex.DecodeString(text)
	if err != nil {
		t.Fatal(err)
	}
	return b
}

func TestSumsOfTheStandard(t *testing.T) { // 5.1: RFC 4231
	for _, c := range []struct{ key, b, want string }{
		{strings.Repeat("\x0b", 20), "Hi There", "b0344c61d8db38535ca8afceaf0bf12b881dc200c9833da726e9376c2e32cff7"},
		{"Jefe", "what do ya want for nothing?", "5bdcc146bf60754e6a042426089575c75a003f089d2739839dec58b964ec3843"},
		{strings.Repeat("\xaa", 20), strings.Repeat("\xdd", 50), "773ea91e36800e46854db8ebd09181a72959098b3ef8c122d9635514ced565fe"},
		{strings.Repeat("\xaa", 131), "Test Using Larger Than Block-Size Key - Hash Key First", "60e431591ee0b67f0d8a26aacbf5b77f8e0bc6213728c5140546040f0ee37f54"},
		{strings.Repeat("\xaa", 131), "This is a test using a larger than block-size key and a larger than block-size data. The key needs to be hashed before being used by the HMAC algorithm.", "9b09ffa71b942fcb27635fbcd5b0e944bfdc63644f0713938a7f51535c3a35e2"},
	} {
		got := mac.Sum([]byte(c.key), []byte(c.b))
		if s := hex.EncodeToString(got[:]); s != c.want {
			t.Errorf("Sum(%x, %q): %s, want %s", c.key, c.b, s, c.want)
		}
	}
}

func TestExample(t *testing.T) { // example 1
	got := mac.Sum([]byte("key"), []byte("The quick brown fox jumps over the lazy dog"))
	if [4]byte(got[:]) != [4]byte{0xf7, 0xbc, 0x83, 0xf4} {
		t.Errorf("Sum begins with %x", got[:4])
	}
}

func TestSumOfEachLength(t *testing.T) { // 5.1
	all := drawn(1, 200)
	for n := range len(all) + 1 {
		for _, m := range []int{0, 1, 55, 56, 63, 64, 65, 200} {
			if got, want := mac.Sum(all[:n], all[:m]), sum(all[:n], all[:m]); got != want {
				t.Errorf("Sum, key of %d bytes, %d bytes: %x, want %x", n, m, got, want)
			}
			if got, want := mac.Sum(all[:m], all[:n]), sum(all[:m], all[:n]); got != want {
				t.Errorf("Sum, key of %d bytes, %d bytes: %x, want %x", m, n, got, want)
			}
		}
	}
	for _, n := range []int{1000, 4096, 1 << 20} {
		b := drawn(2, n)
		if got, want := mac.Sum(b, b), sum(b, b); got != want {
			t.Errorf("Sum, key of %d bytes, and as many: %x, want %x", n, got, want)
		}
	}
}

func TestPartsOfEachKey(t *testing.T) { // 5.1, 5.4
	all := drawn(3, 70000)
	lists := [][][]byte{
		{}, {nil}, {{}}, {nil, nil}, {{0}}, {all[:1], all[1:2]}, {all[:64], nil, all[64:200]},
		{all[:255], all[:256], all[:257]}, {all[:65535], all[:65536], all[:65537]},
		slices.Repeat([][]byte{all[:3]}, 300),
	}
	for _, n := range keyLengths {
		key := drawn(4, n)
		for i, l := range lists {
			got, flat := mac.Parts(key, l...), lengthsAhead(l...)
			if want := sum(key, flat); got != want || got != mac.Sum(key, flat) {
				t.Errorf("Parts, key of %d bytes, list %d: %x, want %x", n, i, got, want)
			}
		}
	}
}

func TestPartsOfAllFourLengthBytes(t *testing.T) { // 5.1: 4 bytes, the highest first
	long := make([]byte, 0x01020304)
	var ahead [4]byte
	binary.BigEndian.PutUint32(ahead[:], uint32(len(long)))
	key := []byte("key")
	if got, want := mac.Parts(key, long), sum(key, ahead[:], long); got != want {
		t.Errorf("Parts of %d bytes: %x, want %x", len(long), got, want)
	}
}

func TestPartsTellWhereTheyEnd(t *testing.T) { // 5.4
	seen := map[[32]byte]string{}
	for what, l := range map[string][][]byte{
		"none": {}, "nothing": {nil}, "twice nothing": {nil, nil}, "abc": {[]byte("abc")},
		"a bc": {[]byte("a"), []byte("bc")}, "ab c": {[]byte("ab"), []byte("c")},
		"c ab": {[]byte("c"), []byte("ab")}, "abc and nothing": {[]byte("abc"), nil},
	} {
		got := mac.Parts([]byte("key"), l...)
		if seen[got] != "" {
			t.Errorf("Parts: %s, and %s, are the same", what, seen[got])
		}
		seen[got] = what
	}
}

func TestExtract(t *testing.T) { // 5.1
	for _, n := range keyLengths {
		for _, m := range keyLengths {
			salt, material := drawn(5, n), drawn(6, m)
			want, err := hkdf.Extract(sha256.New, material, salt)
			if err != nil {
				t.Fatal(err)
			}
			if got := mac.Extract(salt, material); !bytes.Equal(got[:], want) {
				t.Errorf("Extract, salt of %d bytes, material of %d: %x, want %x", n, m, got, want)
			}
		}
	}
}

func TestExtractWithoutSalt(t *testing.T) { // 5.1: 32 noughts, if it is empty
	material := []byte("material")
	want := sum(make([]byte, 32), material)
	if a, b := mac.Extract(nil, material), mac.Extract([]byte{}, material); a != want || b != want {
		t.Errorf("Extract without a salt: %x, %x, want %x", a, b, want)
	}
}

func TestDerivedKeysOfTheStandard(t *testing.T) { // 5.2: RFC 5869
	run := func(from, to int) []byte {
		var b []byte
		for x := from; x <= to; x++ {
			b = append(b, byte(x))
		}
		return b
	}
	eleven := bytes.Repeat([]byte{11}, 22)
	for i, c := range []struct {
		material, salt []byte
		text           string
		want           string
	}{
		{eleven, run(0, 12), string(run(0xf0, 0xf9)), "3cb25f25faacd57a90434f64d0362f2a2d2d0a90cf1a5a4c5db02d56ecc4c5bf34007208d5b887185865"},
		{run(0, 0x4f), run(0x60, 0xaf), string(run(0xb0, 0xff)), "b11e398dc80327a1c8e7f78c596a49344f012eda2d4efad8a050cc4c19afa97c59045a99cac7827271cb41c65e590e09da3275600c2f09b8367793a9aca3db71cc30c58179ec3e87c14c01d5c1f3434f1d87"},
		{eleven, nil, "", "8da4e775a563c18f715f802a063c5a31b8a11f5c5ee1879ec3454e5f3c738d2d9d201395faa4b61a96c8"},
	} {
		want := unhex(t, c.want)
		if got, e := mac.Derive(c.material, c.salt, c.text, len(want)); e != api.OK || !bytes.Equal(got, want) {
			t.Errorf("Derive, case %d: %x, %v, want %x", i+1, got, e, want)
		}
	}
}

func TestExpandOfEachNumber(t *testing.T) { // 5.2
	key := drawn(7, 32)
	for _, text := range []string{"", "a", "a text", "\x00", strings.Repeat("long", 100)} {
		for n := range 200 {
			want, err := hkdf.Expand(sha256.New, key, text, n)
			if err != nil {
				t.Fatal(err)
			}
			if got, e := mac.Expand(key, text, n); e != api.OK || !bytes.Equal(got, want) {
				t.Errorf("Expand, text %q, %d bytes: %x, %v, want %x", text, n, got, e, want)
			}
		}
	}
}

func TestExpandAndDeriveOfEachKey(t *testing.T) { // 5.2
	for _, k := range keyLengths {
		key, salt := drawn(8, k), drawn(9, k)
		for _, n := range []int{1, 32, 33, 100} {
			want, err := hkdf.Expand(sha256.New, key, "text", n)
			if err != nil {
				t.Fatal(err)
			}
			if got, e := mac.Expand(key, "text", n); e != api.OK || !bytes.Equal(got, want) {
				t.Errorf("Expand, key of %d bytes, %d bytes: %x, %v, want %x", k, n, got, e, want)
			}
			want, err = hkdf.Key(sha256.New, key, salt, "text", n)
			if err != nil {
				t.Fatal(err)
			}
			if got, e := mac.Derive(key, salt, "text", n); e != api.OK || !bytes.Equal(got, want) {
				t.Errorf("Derive, material and salt of %d bytes, %d bytes: %x, %v, want %x", k, n, got, e, want)
			}
		}
	}
}

func TestDeriveIsToExtractAndThenToExpand(t *testing.T) { // the chapter's word
	material, salt := drawn(10, 40), drawn(11, 50)
	key := mac.Extract(salt, material)
	for _, n := range []int{-1, 0, 1, 64, most, most + 1} {
		want, wantE := mac.Expand(key[:], "text", n)
		if got, e := mac.Derive(material, salt, "text", n); e != wantE || !bytes.Equal(got, want) {
			t.Errorf("Derive of %d bytes: %v, Expand: %v", n, e, wantE)
		}
	}
}

func TestAsManyBytesAsCanBe(t *testing.T) { // 5.2: 255 digests, the last one whole and not
	key := drawn(12, 32)
	for _, n := range []int{most, most - 1, most - 31, most - 32, most - 33} {
		want, err := hkdf.Expand(sha256.New, key, "text", n)
		if err != nil {
			t.Fatal(err)
		}
		if got, e := mac.Expand(key, "text", n); e != api.OK || !bytes.Equal(got, want) {
			t.Errorf("Expand of %d bytes: %d bytes, %v", n, len(got), e)
		}
		want, err = hkdf.Key(sha256.New, key, key, "text", n)
		if err != nil {
			t.Fatal(err)
		}
		if got, e := mac.Derive(key, key, "text", n); e != api.OK || !bytes.Equal(got, want) {
			t.Errorf("Derive of %d bytes: %d bytes, %v", n, len(got), e)
		}
	}
}

func TestNumbersThatCannotBe(t *testing.T) { // 5.2: ErrArg, ErrLong, and nothing beside them
	for n, want := range map[int]api.Errno{
		-1: api.ErrArg, -32: api.ErrArg, math.MinInt32: api.ErrArg, math.MinInt: api.ErrArg,
		most + 1: api.ErrLong, most + 32: api.ErrLong, 1 << 16: api.ErrLong, math.MaxInt32: api.ErrLong, math.MaxInt: api.ErrLong,
	} {
		for _, key := range [][]byte{nil, drawn(13, 32), drawn(13, 100)} {
			if got, e := mac.Expand(key, "text", n); e != want || len(got) != 0 {
				t.Errorf("Expand of %d bytes: %d bytes, %v, want %v", n, len(got), e, want)
			}
			if got, e := mac.Derive(key, key, "text", n); e != want || len(got) != 0 {
				t.Errorf("Derive of %d bytes: %d bytes, %v, want %v", n, len(got), e, want)
			}
		}
	}
}

func TestNoBytesAreExpanded(t *testing.T) { // 5.2
	if got, e := mac.Expand(nil, "", 0); e != api.OK || len(got) != 0 {
		t.Errorf("Expand of no bytes: %x, %v", got, e)
	}
	if got, e := mac.Derive(nil, nil, "", 0); e != api.OK || len(got) != 0 {
		t.Errorf("Derive of no bytes: %x, %v", got, e)
	}
}

func TestFewerBytesBeginMore(t *testing.T) { // 5.3
	key := drawn(14, 20)
	all, _ := mac.Expand(key, "text", 300)
	whole, _ := mac.Derive(key, key, "text", 300)
	for n := range 300 {
		if got, e := mac.Expand(key, "text", n); e != api.OK || !bytes.Equal(got, all[:n]) {
			t.Errorf("Expand of %d bytes: %x, %v, want %x", n, got, e, all[:n])
		}
		if got, e := mac.Derive(key, key, "text", n); e != api.OK || !bytes.Equal(got, whole[:n]) {
			t.Errorf("Derive of %d bytes: %x, %v, want %x", n, got, e, whole[:n])
		}
	}
}

func TestNoughtsBehindAKey(t *testing.T) { // 5.5
	b := drawn(15, 50)
	for n := range 65 {
		key := bytes.Repeat([]byte{7}, n)
		want := mac.Sum(key, b)
		parts := mac.Parts(key, b, b)
		bytes33, _ := mac.Expand(key, "text", 33)
		for m := n; m <= 64; m++ {
			longer := append(bytes.Clone(key), make([]byte, m-n)...)
			if mac.Sum(longer, b) != want || mac.Parts(longer, b, b) != parts || mac.Extract(longer, b) != want {
				t.Errorf("a key of %d bytes, and %d noughts: not the same", n, m-n)
			}
			if got, _ := mac.Expand(longer, "text", 33); !bytes.Equal(got, bytes33) {
				t.Errorf("Expand, a key of %d bytes, and %d noughts: not the same", n, m-n)
			}
		}
	}
	full := bytes.Repeat([]byte{7}, 64)
	if mac.Sum(append(bytes.Clone(full), 0), b) == mac.Sum(full, b) {
		t.Error("a nought behind 64 bytes comes to the same")
	}
}

func TestKeyOfMoreThanABlockIsItsDigest(t *testing.T) { // the chapter's word
	for _, n := range []int{65, 66, 128, 1000} {
		key := drawn(16, n)
		digest := sha256.Sum256(key)
		if got, want := mac.Sum(key, key), mac.Sum(digest[:], key); got != want {
			t.Errorf("Sum, key of %d bytes: %x, its digest: %x", n, got, want)
		}
	}
	key := drawn(16, 64)
	digest := sha256.Sum256(key)
	if mac.Sum(key, key) == mac.Sum(digest[:], key) {
		t.Error("a key of 64 bytes is its digest")
	}
}

func TestSame(t *testing.T) { // 5.2
	for _, n := range []int{0, 1, 2, 16, 32, 63, 64, 300} {
		a := drawn(17, n)
		if !mac.Same(a, bytes.Clone(a)) || !mac.Same(a, a) {
			t.Errorf("%d bytes are not the same as themselves", n)
		}
		for i := range n {
			for bit := range 8 {
				b := bytes.Clone(a)
				b[i] ^= 1 << bit
				if mac.Same(a, b) || mac.Same(b, a) {
					t.Errorf("%d bytes are the same, though byte %d differs", n, i)
				}
			}
		}
		for i := range n {
			if mac.Same(a, a[:i]) || mac.Same(a[:i], a) {
				t.Errorf("%d bytes are the same as their first %d", n, i)
			}
		}
	}
}

func TestSameOfDifferencesThatCouldCancel(t *testing.T) { // 5.2
	for _, c := range [][2]string{
		{"ab", "ba"}, {"\x01\x01", "\x02\x02"}, {"\x00\x80", "\x80\x00"}, {"\x01\xff", "\x00\x00"},
		{"\x05\x05", "\x00\x00"}, {"", "\x00"}, {"\x00", "\x00\x00"}, {"\x02a", "\x00"},
	} {
		if mac.Same([]byte(c[0]), []byte(c[1])) || mac.Same([]byte(c[1]), []byte(c[0])) {
			t.Errorf("%q and %q are the same", c[0], c[1])
		}
	}
	if mac.Same(make([]byte, 256), nil) || mac.Same(make([]byte, 65536), make([]byte, 0)) || mac.Same(make([]byte, 257), []byte{0}) {
		t.Error("lengths that differ by 256 are the same")
	}
}

func TestSameLooksAtAllBytes(t *testing.T) { // 5.2: wherever they differ
	a := make([]byte, 1<<25)
	shortest := func(b []byte) time.Duration {
		least := time.Duration(math.MaxInt64)
		for range 3 {
			begun := time.Now()
			mac.Same(a, b)
			least = min(least, time.Since(begun))
		}
		return least
	}
	b := bytes.Clone(a)
	whole := shortest(b)
	b[0] = 1
	// An early end would be a million times as fast: a wide bound, as the machine may have other work.
	if early := shortest(b); early < whole/50 {
		t.Errorf("Same takes %v where the first byte differs, and %v where none does", early, whole)
	}
}

func TestSameOfNoneAndEmpty(t *testing.T) { // 5.2, rule 3
	if !mac.Same(nil, nil) || !mac.Same(nil, []byte{}) || !mac.Same([]byte{}, nil) {
		t.Error("nothing is not the same as nothing")
	}
	if mac.Same(nil, []byte{0}) || mac.Same([]byte{0}, nil) {
		t.Error("a nought is the same as nothing")
	}
}

func TestNoneIsAsEmpty(t *testing.T) { // rule 3
	e := []byte{}
	if mac.Sum(nil, nil) != mac.Sum(e, e) || mac.Sum(nil, nil) != sum(nil) {
		t.Error("Sum of none is not that of empty")
	}
	if mac.Parts(nil, nil) != mac.Parts(e, e) || mac.Parts(nil) != mac.Sum(e, e) {
		t.Error("Parts of none are not those of empty")
	}
	a, _ := mac.Derive(nil, nil, "", 40)
	b, _ := mac.Derive(e, e, "", 40)
	if !bytes.Equal(a, b) {
		t.Error("Derive of none is not that of empty")
	}
}

func TestNothingHandedInIsChangedOrShared(t *testing.T) { // rule 4
	for _, n := range []int{0, 1, 32, 63, 64, 65, 200} {
		whole := drawn(uint64(n), n+200) // what is handed in has room behind it, for what may not be put there
		kept := bytes.Clone(whole)
		b := whole[:n]
		list := make([][]byte, 2, 10)
		list[0], list[1] = b, b
		mac.Sum(b, b)
		mac.Parts(b, list...)
		mac.Extract(b, b)
		mac.Same(b, b)
		one, _ := mac.Expand(b, "text", 70)
		two, _ := mac.Derive(b, b, "text", 70)
		expanded, derived := bytes.Clone(one), bytes.Clone(two)
		for i := range one {
			one[i] ^= 255
			two[i] ^= 255
		}
		if !bytes.Equal(whole, kept) {
			t.Errorf("%d bytes that were handed in are changed", n)
		}
		if list[:3][2] != nil || !bytes.Equal(list[0], b) || !bytes.Equal(list[1], b) {
			t.Error("the list that was handed in is changed")
		}
		if again, _ := mac.Expand(b, "text", 70); !bytes.Equal(again, expanded) {
			t.Errorf("Expand hangs on what became of an elder answer, key of %d bytes", n)
		}
		if again, _ := mac.Derive(b, b, "text", 70); !bytes.Equal(again, derived) {
			t.Errorf("Derive hangs on what became of an elder answer, key of %d bytes", n)
		}
	}
}

func TestNoMoreIsHandedOutThanWasAskedFor(t *testing.T) { // 5.2
	for _, n := range []int{0, 1, 31, 32, 33} {
		got, _ := mac.Expand([]byte("key"), "text", n)
		for _, x := range got[n:cap(got)] {
			if x != 0 {
				t.Fatalf("behind %d bytes lie others: %x", n, got[:cap(got)])
			}
		}
	}
}
