package sha_test

import (
	"bytes"
	"crypto/sha256"
	"encoding"
	"encoding/binary"
	"encoding/hex"
	"math"
	"math/big"
	"math/rand/v2"
	"slices"
	"strings"
	"testing"

	"seneschal/sha"
)

// firstState is the chapter's first state.
var firstState = [8]uint32{
	0x6a09e667, 0xbb67ae85, 0x3c6ef372, 0xa54ff53a, 0x510e527f, 0x9b05688c, 0x1f83d9ab, 0x5be0cd19,
}

// drawn answers n bytes, the same each time.
func drawn(seed uint64, n int) []byte {
	r := rand.New(rand.NewPCG(seed, 4))
	b := make([]byte, n)
	for i := range b {
		b[i] = byte(r.Uint32())
	}
	return b
}

// behind is the state behind a block, reckoned by the library: its digest on its way can be set and read as bytes, the state behind 4 of them.
func behind(t *testing.T, state [8]uint32, block [64]byte) [8]uint32 {
	t.Helper()
	h := sha256.New()
	kept, err := h.(encoding.BinaryMarshaler).MarshalBinary()
	if err != nil {
		t.Fatal(err)
	}
	for i, x := range state {
		binary.BigEndian.PutUint32(kept[4+4*i:], x)
	}
	if err := h.(encoding.BinaryUnmarshaler).UnmarshalBinary(kept); err != nil {
		t.Fatal(err)
	}
	h.Write(block[:])
	kept, err = h.(encoding.BinaryMarshaler).MarshalBinary()
	if err != nil {
		t.Fatal(err)
	}
	for i := range state {
		state[i] = binary.BigEndian.Uint32(kept[4+4*i:])
	}
	return state
}

// padded is what the chapter says of b and what is put behind it, word for word.
func padded(b []byte) []byte {
	out := append(bytes.Clone(b), 128)
	for len(out)%64 != 56 {
		out = append(out, 0)
	}
	return binary.BigEndian.AppendUint64(out, 8*uint64(len(b)))
}

func TestDigestsOfTheStandard(t *testing.T) { // 4.1, example 1
	for _, c := range []struct{ of, want string }{
		{"", "e3b0c44298fc1c149afbf4c8996fb92427ae41e4649b934ca495991b7852b855"},
		{"abc", "ba7816bf8f01cfea414140de5dae2223b00361a396177a9cb410ff61f20015ad"},
		{"abcdbcdecdefdefgefghfghighijhijkijkljklmklmnlmnomnopnopq", "248d6a61d20638b8e5c026930c3e6039a33ce45964ff2167f6ecedd419db06c1"},
		{strings.Repeat("a", 1000000), "cdc76e5c9914fb9281a1c7e284d73e67f1809a48a497200e046d39ccc7112cd0"},
	} {
		got := sha.Sum([]byte(c.of))
		if s := hex.EncodeToString(got[:]); s != c.want {
			t.Errorf("Sum of %d bytes: %s, want %s", len(c.of), s, c.want)
		}
	}
}

func TestSumOfEachLength(t *testing.T) { // 4.1
	all := drawn(1, 8*64+9)
	for n := range len(all) + 1 {
		if got, want := sha.Sum(all[:n]), sha256.Sum256(all[:n]); got != want {
			t.Errorf("Sum of %d bytes: %x, want %x", n, got, want)
		}
	}
	for _, x := range []byte{0, 127, 128, 255} {
		for n := range 130 {
			b := bytes.Repeat([]byte{x}, n)
			if got, want := sha.Sum(b), sha256.Sum256(b); got != want {
				t.Errorf("Sum of %d bytes %d: %x, want %x", n, x, got, want)
			}
		}
	}
}

func TestSumOfNoneIsThatOfEmpty(t *testing.T) { // rule 3
	want := sha256.Sum256(nil)
	for what, got := range map[string][32]byte{
		"Sum(nil)": sha.Sum(nil), "Sum(empty)": sha.Sum([]byte{}), "Parts()": sha.Parts(),
		"Parts(nil)": sha.Parts(nil), "Parts(nil, empty)": sha.Parts(nil, []byte{}),
	} {
		if got != want {
			t.Errorf("%s: %x, want %x", what, got, want)
		}
	}
	if got := sha.Pad(nil); !bytes.Equal(got, padded(nil)) {
		t.Errorf("Pad(nil): %x", got)
	}
}

func TestLengthsBeyond32Bits(t *testing.T) { // 4.1: the length has 8 bytes
	piece := drawn(2, 1<<20)
	l := slices.Repeat([][]byte{piece}, 1<<9)
	h := sha256.New()
	for _, p := range l {
		h.Write(p)
	}
	if got := sha.Parts(l...); !bytes.Equal(got[:], h.Sum(nil)) {
		t.Errorf("Parts of 2 to the 32 bits: %x, want %x", got, h.Sum(nil))
	}
}

func TestPadOfEachLength(t *testing.T) { // 4.1
	all := drawn(3, 5*64)
	for n := range len(all) + 1 {
		if got, want := sha.Pad(all[:n]), padded(all[:n]); !bytes.Equal(got, want) {
			t.Errorf("Pad of %d bytes: %x, want %x", n, got, want)
		}
	}
	for _, n := range []int{8191, 8192, 1<<21 - 1, 1 << 21, 1<<21 + 55} { // where the length has one more byte
		b := make([]byte, n)
		if !bytes.Equal(sha.Pad(b), padded(b)) {
			t.Errorf("Pad of %d bytes ends in %x", n, sha.Pad(b)[n:])
		}
	}
}

func TestBlockBehindAnyState(t *testing.T) { // 4.1
	r := rand.New(rand.NewPCG(5, 4))
	ones := [8]uint32{}
	for i := range ones {
		ones[i] = math.MaxUint32
	}
	states := [][8]uint32{{}, ones, firstState}
	blocks := [][64]byte{{}, [64]byte(bytes.Repeat([]byte{255}, 64)), [64]byte(drawn(6, 64))}
	for range 200 {
		state := [8]uint32{}
		for i := range state {
			state[i] = r.Uint32()
		}
		states = append(states, state)
	}
	for i := range 512 { // a single bit that is turned
		state, block := [8]uint32{}, [64]byte{}
		state[i/64] = 1 << (i % 32)
		block[i/8] = 1 << (i % 8)
		states, blocks = append(states, state), append(blocks, block)
	}
	for i, state := range states {
		block := blocks[i%len(blocks)]
		if got, want := sha.Block(state, block), behind(t, state, block); got != want {
			t.Errorf("Block(%x, %x): %x, want %x", state, block, got, want)
		}
	}
	for _, block := range blocks {
		if got, want := sha.Block(firstState, block), behind(t, firstState, block); got != want {
			t.Errorf("Block(first, %x): %x, want %x", block, got, want)
		}
	}
}

func TestDigestIsTheStateBehindAllBlocks(t *testing.T) { // 4.3
	all := drawn(7, 1000)
	for n := 0; n <= len(all); n += 7 {
		state, rest := firstState, sha.Pad(all[:n])
		if len(rest)%64 != 0 {
			t.Fatalf("Pad of %d bytes has %d", n, len(rest))
		}
		for ; len(rest) > 0; rest = rest[64:] {
			state = sha.Block(state, [64]byte(rest))
		}
		want := [32]byte{}
		for i, x := range state {
			binary.BigEndian.PutUint32(want[4*i:], x)
		}
		if got := sha.Sum(all[:n]); got != want {
			t.Errorf("Sum of %d bytes: %x, its blocks: %x", n, got, want)
		}
	}
}

func TestPartsHangOnTheWholeAlone(t *testing.T) { // 4.1, 4.4
	all := drawn(8, 200)
	want := sha256.Sum256(all)
	for i := range len(all) + 1 {
		for j := i; j <= len(all); j++ {
			if got := sha.Parts(all[:i], all[i:j], all[j:]); got != want {
				t.Fatalf("Parts cut at %d and %d: %x, want %x", i, j, got, want)
			}
		}
	}
	single := [][]byte{nil}
	for i := range all {
		single = append(single, all[i:i+1], nil, []byte{})
	}
	if got := sha.Parts(single...); got != want {
		t.Errorf("Parts byte by byte: %x, want %x", got, want)
	}
	if got := sha.Parts(all[100:], all[:100]); got == want {
		t.Errorf("Parts the other way round are the same: %x", got)
	}
}

func TestPartsThatAreOneMemory(t *testing.T) { // 4.4
	b := drawn(9, 70)
	if got, want := sha.Parts(b, b[10:], b), sha256.Sum256(slices.Concat(b, b[10:], b)); got != want {
		t.Errorf("Parts of one memory: %x, want %x", got, want)
	}
}

func TestPrefixOfEachNumberOfBits(t *testing.T) { // 4.2
	for seed := range uint64(50) {
		b := drawn(seed, int(seed)*3)
		digest := sha256.Sum256(b)
		for bits := range 65 {
			want := new(big.Int).SetBytes(digest[:])
			want.Rsh(want, uint(256-bits))
			if got := sha.Prefix(b, bits); got != want.Uint64() {
				t.Errorf("Prefix of %x, %d bits: %x, want %x", b, bits, got, want)
			}
		}
	}
}

func TestPrefixIsClamped(t *testing.T) { // 4.2
	b := []byte("abc")
	for _, bits := range []int{0, -1, -2, -63, -64, -65, -256, math.MinInt32, math.MinInt} {
		if got := sha.Prefix(b, bits); got != 0 {
			t.Errorf("Prefix, %d bits: %x, want none", bits, got)
		}
	}
	for _, bits := range []int{64, 65, 66, 127, 128, 256, math.MaxInt32, math.MaxInt} {
		if got := sha.Prefix(b, bits); got != 0xba7816bf8f01cfea {
			t.Errorf("Prefix, %d bits: %x, want the first 64", bits, got)
		}
	}
}

func TestExamples(t *testing.T) { // example 1
	if got := sha.Sum([]byte("abc")); [4]byte(got[:]) != [4]byte{0xba, 0x78, 0x16, 0xbf} {
		t.Errorf("Sum of abc begins with %x", got[:4])
	}
	if got := sha.Prefix(nil, 16); got != 58288 {
		t.Errorf("Prefix of nothing, 16 bits: %d, want 58288", got)
	}
}

func TestNothingHandedInIsChangedOrShared(t *testing.T) { // rule 4
	for _, n := range []int{0, 1, 55, 56, 63, 64, 200} {
		whole := drawn(uint64(n), n+200) // what is handed in has room behind it, for what may not be put there
		kept := bytes.Clone(whole)
		b := whole[:n]
		sha.Sum(b)
		sha.Parts(b, b)
		sha.Prefix(b, 64)
		out := sha.Pad(b)
		if !bytes.Equal(whole, kept) {
			t.Errorf("%d bytes that were handed in are changed", n)
		}
		for i := range out {
			out[i] ^= 255
		}
		if !bytes.Equal(whole, kept) {
			t.Errorf("Pad of %d bytes shares what was handed in", n)
		}
		if again := sha.Pad(b); !bytes.Equal(again, padded(b)) {
			t.Errorf("Pad of %d bytes hangs on what became of an elder answer", n)
		}
	}
}

func TestBlockChangesNothing(t *testing.T) { // rule 4
	state, block := firstState, [64]byte(drawn(10, 64))
	was, had := state, block
	one := sha.Block(state, block)
	if two := sha.Block(state, block); state != was || block != had || one != two {
		t.Errorf("Block twice: %x, %x", one, two)
	}
}

func TestAnswersHangOnNoEarlierCall(t *testing.T) { // P2
	b := drawn(11, 100)
	want := sha256.Sum256(b)
	for n := range 70 {
		sha.Parts(b[:n], nil)
		if got := sha.Sum(b); got != want {
			t.Fatalf("Sum behind a call with %d bytes: %x, want %x", n, got, want)
		}
	}
}
