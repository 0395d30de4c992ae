package aes_test

import (
	"bytes"
	standard "crypto/aes"
	"encoding/hex"
	"math/bits"
	"math/rand/v2"
	"testing"

	"seneschal/aes"
	"seneschal/api"
)

// drawn answers n bytes, the same each time.
func drawn(seed uint64, n int) []byte {
	r := rand.New(rand.NewPCG(seed, 6))
	b := make([]byte, n)
	for i := range b {
		b[i] = byte(r.Uint32())
	}
	return b
}

// unhex answers the bytes of a text.
func unhex(t *testing.T, text string) []byte {
	t.Helper()
	b, err := hex.DecodeString(text)
	if err != nil {
		t.Fatal(err)
	}
	return b
}

// encrypted is the block that comes, by the library.
func encrypted(t *testing.T, key, block []byte) []byte {
	t.Helper()
	c, err := standard.NewCipher(key)
	if err != nil {
		t.Fatal(err)
	}
	out := make([]byte, 16)
	c.Encrypt(out, block)
	return out
}

// decrypted is the block that comes, by the library.
func decrypted(t *testing.T, key, block []byte) []byte {
	t.Helper()
	c, err := standard.NewCipher(key)
	if err != nil {
		t.Fatal(err)
	}
	out := make([]byte, 16)
	c.Decrypt(out, block)
	return out
}

// product is that of two polynomials, divided by 283 only when it is whole.
func product(a, b byte) byte {
	whole := 0
	for i := range 8 {
		whole ^= int(b>>i&1) * (int(a) << i)
	}
	for i := 15; i >= 8; i-- {
		whole ^= (whole >> i & 1) * (283 << (i - 8))
	}
	return byte(whole)
}

// substitute is the chapter's word: the inverse is looked for among all bytes.
func substitute(x byte) byte {
	y := byte(0)
	for z := range 256 {
		if product(x, byte(z)) == 1 {
			y = byte(z)
		}
	}
	out := y ^ 99
	for n := 1; n <= 4; n++ {
		out ^= bits.RotateLeft8(y, n)
	}
	return out
}

// keysOfRounds is the chapter's word, column by column.
func keysOfRounds(key []byte) [11][16]byte {
	var columns [44][4]byte
	for c := range 4 {
		columns[c] = [4]byte(key[4*c:])
	}
	power := byte(1)
	for c := 4; c < 44; c++ {
		one := columns[c-1]
		if c%4 == 0 {
			one = [4]byte{one[1], one[2], one[3], one[0]}
			for k := range one {
				one[k] = substitute(one[k])
			}
			one[0] ^= power
			power = product(power, 2)
		}
		for k := range one {
			columns[c][k] = columns[c-4][k] ^ one[k]
		}
	}
	var keys [11][16]byte
	for c, column := range columns {
		copy(keys[c/4][4*(c%4):], column[:])
	}
	return keys
}

// blocks answers blocks around the edges, and drawn ones: noughts, ones, a single bit or byte that differs.
func blocks() [][]byte {
	ones := bytes.Repeat([]byte{255}, 16)
	out := [][]byte{make([]byte, 16), ones}
	for i := range 128 {
		one, other := make([]byte, 16), bytes.Clone(ones)
		one[i/8] |= 1 << (i % 8)
		other[i/8] ^= 1 << (i % 8)
		out = append(out, one, other)
	}
	for x := range 256 {
		out = append(out, bytes.Repeat([]byte{byte(x)}, 16))
	}
	for seed := range uint64(200) {
		out = append(out, drawn(seed, 16))
	}
	return out
}

func TestTimesOfAllBytes(t *testing.T) { // 6.1
	for a := range 256 {
		for b := range 256 {
			if got, want := aes.Times(byte(a), byte(b)), product(byte(a), byte(b)); got != want {
				t.Fatalf("Times(%d, %d): %d, want %d", a, b, got, want)
			}
		}
	}
}

func TestProductsOfTheStandard(t *testing.T) { // 6.1: FIPS 197, 4.2
	for _, c := range []struct{ a, b, want byte }{
		{0x57, 0x83, 0xc1}, {0x57, 0x02, 0xae}, {0x57, 0x04, 0x47}, {0x57, 0x08, 0x8e}, {0x57, 0x10, 0x07}, {0x57, 0x13, 0xfe},
		{0x80, 2, 27}, {0x7f, 2, 0xfe}, {0, 0, 0}, {255, 0, 0}, {0, 255, 0}, {255, 1, 255}, {1, 255, 255},
	} {
		if got := aes.Times(c.a, c.b); got != c.want {
			t.Errorf("Times(%d, %d): %d, want %d", c.a, c.b, got, c.want)
		}
	}
}

func TestProductsAreThoseOfAField(t *testing.T) { // 6.4
	for a := range 256 {
		x, inverses := byte(a), 0
		for b := range 256 {
			y := byte(b)
			if aes.Times(x, y) != aes.Times(y, x) {
				t.Fatalf("Times(%d, %d) hangs on the order", x, y)
			}
			if (aes.Times(x, y) == 0) != (x == 0 || y == 0) {
				t.Fatalf("Times(%d, %d): %d", x, y, aes.Times(x, y))
			}
			if aes.Times(x, y) == 1 {
				inverses++
			}
			for c := 0; c < 256; c += 5 {
				z := byte(c)
				if aes.Times(x, aes.Times(y, z)) != aes.Times(aes.Times(x, y), z) {
					t.Fatalf("%d, %d and %d: the product hangs on which come first", x, y, z)
				}
				if aes.Times(x, y^z) != aes.Times(x, y)^aes.Times(x, z) {
					t.Fatalf("%d times %d xor %d is not the two products' xor", x, y, z)
				}
			}
		}
		if want := min(a, 1); inverses != want {
			t.Errorf("%d has %d inverses, want %d", x, inverses, want)
		}
	}
}

func TestSubstituteOfAllBytes(t *testing.T) { // 6.1
	for x := range 256 {
		if got, want := aes.Substitute(byte(x)), substitute(byte(x)); got != want {
			t.Errorf("Substitute(%d): %d, want %d", x, got, want)
		}
	}
	if aes.Substitute(0) != 99 || aes.Substitute(0x53) != 0xed {
		t.Errorf("Substitute(0), Substitute(0x53): %x, %x", aes.Substitute(0), aes.Substitute(0x53))
	}
}

func TestSubstitutesAreAllDifferent(t *testing.T) { // 6.4
	seen := map[byte]int{}
	for x := range 256 {
		y := aes.Substitute(byte(x))
		if other, ok := seen[y]; ok {
			t.Errorf("%d and %d have the substitute %d", other, x, y)
		}
		seen[y] = x
	}
}

func TestKeysOfTheStandard(t *testing.T) { // 6.1: FIPS 197, A.1
	keys, e := aes.Keys(unhex(t, "2b7e151628aed2a6abf7158809cf4f3c"))
	if e != api.OK {
		t.Fatal(e)
	}
	for i, want := range map[int]string{
		0: "2b7e151628aed2a6abf7158809cf4f3c", 1: "a0fafe1788542cb123a339392a6c7605",
		2: "f2c295f27a96b9435935807a7359f67f", 8: "ead27321b58dbad2312bf5607f8d292f",
		9: "ac7766f319fadc2128d12941575c006e", 10: "d014f9a8c9ee2589e13f0cc8b6630ca6",
	} {
		if got := hex.EncodeToString(keys[i][:]); got != want {
			t.Errorf("the key of round %d: %s, want %s", i, got, want)
		}
	}
}

func TestKeysOfEachKey(t *testing.T) { // 6.1
	for _, key := range blocks() {
		if got, e := aes.Keys(key); e != api.OK || got != keysOfRounds(key) {
			t.Errorf("Keys(%x): %x, %v, want %x", key, got, e, keysOfRounds(key))
		}
	}
}

func TestExample(t *testing.T) { // example 1, whole: FIPS 197, C.1
	key, block := make([]byte, 16), make([]byte, 16)
	for i := range 16 {
		key[i], block[i] = byte(i), byte(17*i)
	}
	want := unhex(t, "69c4e0d86a7b0430d8cdb78070b4c55a")
	if got, e := aes.Encrypt(key, block); e != api.OK || !bytes.Equal(got, want) {
		t.Errorf("Encrypt: %x, %v, want %x", got, e, want)
	}
	if got, e := aes.Decrypt(key, want); e != api.OK || !bytes.Equal(got, block) {
		t.Errorf("Decrypt: %x, %v, want %x", got, e, block)
	}
}

func TestBlocksOfTheStandard(t *testing.T) { // 6.2: SP 800-38A, F.1.1
	key := unhex(t, "2b7e151628aed2a6abf7158809cf4f3c")
	for block, want := range map[string]string{
		"6bc1bee22e409f96e93d7e117393172a": "3ad77bb40d7a3660a89ecaf32466ef97",
		"ae2d8a571e03ac9c9eb76fac45af8e51": "f5d3d58503b9699de785895a96fdbaaf",
		"30c81c46a35ce411e5fbc1191a0a52ef": "43b1cd7f598ece23881b00e3ed030688",
		"f69f2445df4f9b17ad2b417be66c3710": "7b0c785e27e8ad3f8223207104725dd4",
	} {
		if got, e := aes.Encrypt(key, unhex(t, block)); e != api.OK || hex.EncodeToString(got) != want {
			t.Errorf("Encrypt(%s): %x, %v, want %s", block, got, e, want)
		}
		if got, e := aes.Decrypt(key, unhex(t, want)); e != api.OK || hex.EncodeToString(got) != block {
			t.Errorf("Decrypt(%s): %x, %v, want %s", want, got, e, block)
		}
	}
}

func TestEachBlockAndEachKey(t *testing.T) { // 6.2
	all := blocks()
	fixed := drawn(1000, 16)
	for i, b := range all {
		for _, c := range [][2][]byte{{b, fixed}, {fixed, b}, {b, b}, {b, all[len(all)-1-i]}} {
			key, block := c[0], c[1]
			if got, e := aes.Encrypt(key, block); e != api.OK || !bytes.Equal(got, encrypted(t, key, block)) {
				t.Errorf("Encrypt(%x, %x): %x, %v, want %x", key, block, got, e, encrypted(t, key, block))
			}
			if got, e := aes.Decrypt(key, block); e != api.OK || !bytes.Equal(got, decrypted(t, key, block)) {
				t.Errorf("Decrypt(%x, %x): %x, %v, want %x", key, block, got, e, decrypted(t, key, block))
			}
		}
	}
}

func TestEachUndoesTheOther(t *testing.T) { // 6.3
	for i, block := range blocks() {
		key := drawn(uint64(2000+i), 16)
		there, _ := aes.Encrypt(key, block)
		if back, e := aes.Decrypt(key, there); e != api.OK || !bytes.Equal(back, block) {
			t.Errorf("key %x: %x encrypted and decrypted: %x, %v", key, block, back, e)
		}
		there, _ = aes.Decrypt(key, block)
		if back, e := aes.Encrypt(key, there); e != api.OK || !bytes.Equal(back, block) {
			t.Errorf("key %x: %x decrypted and encrypted: %x, %v", key, block, back, e)
		}
	}
}

func TestOtherBlocksComeToOthers(t *testing.T) { // 6.5
	key := drawn(3000, 16)
	came := map[[16]byte][16]byte{}
	for i := range 5000 {
		var block [16]byte
		copy(block[i%15:], []byte{byte(i >> 8), byte(i)})
		got, e := aes.Encrypt(key, block[:])
		if e != api.OK || len(got) != 16 {
			t.Fatalf("Encrypt(%x): %x, %v", block, got, e)
		}
		if other, ok := came[[16]byte(got)]; ok && other != block {
			t.Errorf("%x and %x come to %x", other, block, got)
		}
		came[[16]byte(got)] = block
	}
}

func TestOtherLengthsAreRefused(t *testing.T) { // 6.1, 6.2, rule 5
	right := drawn(4000, 16)
	for n := range 70 {
		wrong := drawn(uint64(n), n)
		if n == 16 {
			continue
		}
		if n == 0 {
			wrong = nil
		}
		if keys, e := aes.Keys(wrong); e != api.ErrArg || keys != [11][16]byte{} {
			t.Errorf("Keys, %d bytes: %x, %v", n, keys, e)
		}
		for _, c := range [][2][]byte{{wrong, right}, {right, wrong}, {wrong, wrong}} {
			if got, e := aes.Encrypt(c[0], c[1]); e != api.ErrArg || len(got) != 0 {
				t.Errorf("Encrypt, a key of %d bytes, a block of %d: %x, %v", len(c[0]), len(c[1]), got, e)
			}
			if got, e := aes.Decrypt(c[0], c[1]); e != api.ErrArg || len(got) != 0 {
				t.Errorf("Decrypt, a key of %d bytes, a block of %d: %x, %v", len(c[0]), len(c[1]), got, e)
			}
		}
	}
	if got, e := aes.Encrypt([]byte{}, []byte{}); e != api.ErrArg || len(got) != 0 {
		t.Errorf("Encrypt, both empty: %x, %v", got, e)
	}
	long := make([]byte, 1<<20)
	if got, e := aes.Decrypt(long, long); e != api.ErrArg || len(got) != 0 {
		t.Errorf("Decrypt, both long: %x, %v", got, e)
	}
}

func TestNothingHandedInIsChangedOrShared(t *testing.T) { // rule 4
	whole := drawn(5000, 100) // what is handed in has room behind it, for what may not be put there
	kept := bytes.Clone(whole)
	key, block := whole[10:26], whole[40:56]
	for what, f := range map[string]func(key, block []byte) ([]byte, api.Errno){"Encrypt": aes.Encrypt, "Decrypt": aes.Decrypt} {
		for _, other := range [][]byte{block, key, whole[18:34]} { // a block of its own, the key's memory, a piece of it
			out, e := f(key, other)
			was := bytes.Clone(out)
			if e != api.OK || len(out) != 16 {
				t.Fatalf("%s: %x, %v", what, out, e)
			}
			for i := range out {
				out[i] ^= 255
			}
			if !bytes.Equal(whole, kept) {
				t.Fatalf("%s changes or shares what is handed in", what)
			}
			if again, _ := f(key, other); !bytes.Equal(again, was) {
				t.Errorf("%s hangs on what became of an elder answer", what)
			}
		}
	}
	aes.Keys(key)
	if !bytes.Equal(whole, kept) {
		t.Error("Keys changes what is handed in")
	}
}

func TestRefusedCallsLeaveNoTrace(t *testing.T) { // P2
	key, block := drawn(6000, 16), drawn(6001, 16)
	want := encrypted(t, key, block)
	for n := range 20 {
		aes.Keys(drawn(1, n))
		aes.Encrypt(drawn(2, n), block)
		aes.Decrypt(key, drawn(3, n))
		if got, e := aes.Encrypt(key, block); e != api.OK || !bytes.Equal(got, want) {
			t.Fatalf("Encrypt behind calls with %d bytes: %x, %v, want %x", n, got, e, want)
		}
	}
}
