package seal_test

import (
	"bytes"
	"crypto/aes"
	"crypto/cipher"
	"crypto/hkdf"
	"crypto/hmac"
	"crypto/sha256"
	"math"
	"math/rand/v2"
	"slices"
	"strconv"
	"testing"

	"seneschal/api"
	"seneschal/seal"
)

const most = 4096 // bytes of a text

// usesThatMayNot are those next to the ones that may, and far ones: some of them end with a byte that may be.
var usesThatMayNot = []int{-1, -2, -256, 256, 257, 512, 1 << 16, math.MaxInt32, math.MinInt32, math.MaxInt, math.MinInt}

// drawn answers n bytes, the same each time.
func drawn(seed uint64, n int) []byte {
	r := rand.New(rand.NewPCG(seed, 7))
	b := make([]byte, n)
	for i := range b {
		b[i] = byte(r.Uint32())
	}
	return b
}

// lengths answers those of texts around all the blocks' edges, and the greatest ones.
func lengths() []int {
	out := []int{254, 255, 256, 257, 1000, most - 17, most - 16, most - 15, most - 1, most}
	for n := range 100 {
		out = append(out, n)
	}
	return out
}

// keysOf is both keys, by the library.
func keysOf(t *testing.T, key []byte, use int) ([]byte, []byte) {
	t.Helper()
	first, err := hkdf.Expand(sha256.New, key, "e"+strconv.Itoa(use), 16)
	if err != nil {
		t.Fatal(err)
	}
	second, err := hkdf.Expand(sha256.New, key, "i"+strconv.Itoa(use), 16)
	if err != nil {
		t.Fatal(err)
	}
	return first, second
}

// tagOf is the tag, by the library.
func tagOf(t *testing.T, key []byte, use int, b []byte) []byte {
	t.Helper()
	_, second := keysOf(t, key, use)
	h := hmac.New(sha256.New, second)
	h.Write(make([]byte, 16))
	h.Write(b)
	return h.Sum(nil)[:16]
}

// cipherOf is AES of the first key, by the library.
func cipherOf(t *testing.T, key []byte, use int) cipher.Block {
	t.Helper()
	first, _ := keysOf(t, key, use)
	c, err := aes.NewCipher(first)
	if err != nil {
		t.Fatal(err)
	}
	return c
}

// sealed is the chapter's word: the library chains whole blocks, and the last two are put in their places byte by byte.
func sealed(t *testing.T, key []byte, use int, confounder, text []byte) []byte {
	t.Helper()
	plain := slices.Concat(confounder, text)
	size := len(plain)
	for len(plain)%16 != 0 {
		plain = append(plain, 0)
	}
	chained := make([]byte, len(plain))
	cipher.NewCBCEncrypter(cipherOf(t, key, use), make([]byte, 16)).CryptBlocks(chained, plain)
	if n := len(chained); n > 16 {
		chained = slices.Concat(chained[:n-32], chained[n-16:], chained[n-32:n-16])[:size]
	}
	return append(chained, tagOf(t, key, use, chained)...)
}

// opened is the text of bytes with any tag: the last two blocks are solved for, ahead of what came before them.
func opened(t *testing.T, key []byte, use int, b []byte) []byte {
	t.Helper()
	c := cipherOf(t, key, use)
	hidden := b[:len(b)-16]
	if len(hidden) == 16 {
		return nil
	}
	ahead := (len(hidden) - 17) / 16 * 16 // bytes of the blocks that are in their places
	mixed, cut := make([]byte, 16), hidden[ahead+16:]
	c.Decrypt(mixed, hidden[ahead:ahead+16])
	last := make([]byte, len(cut))
	for i := range cut {
		last[i] = mixed[i] ^ cut[i]
	}
	chained := slices.Concat(hidden[:ahead], cut, mixed[len(cut):])
	plain := make([]byte, len(chained))
	cipher.NewCBCDecrypter(c, make([]byte, 16)).CryptBlocks(plain, chained)
	return append(plain[16:], last...)
}

func TestExample(t *testing.T) { // example 1
	key, confounder := drawn(1, 16), drawn(2, 16)
	b, e := seal.Seal(key, 2, confounder, []byte("hello"))
	if e != api.OK || len(b) != 37 {
		t.Fatalf("Seal: %x, %v", b, e)
	}
	if text, e := seal.Open(key, 2, b); e != api.OK || string(text) != "hello" {
		t.Errorf("Open: %q, %v", text, e)
	}
}

func TestKeysOfEachUse(t *testing.T) { // 7.1
	for seed, key := range [][]byte{make([]byte, 16), bytes.Repeat([]byte{255}, 16), drawn(3, 16)} {
		for use := range 256 {
			first, second, e := seal.Keys(key, use)
			wantFirst, wantSecond := keysOf(t, key, use)
			if e != api.OK || !bytes.Equal(first, wantFirst) || !bytes.Equal(second, wantSecond) {
				t.Errorf("Keys, key %d, use %d: %x, %x, %v, want %x, %x", seed, use, first, second, e, wantFirst, wantSecond)
			}
		}
	}
}

func TestSealAndOpenOfEachLength(t *testing.T) { // 7.1, 7.2, 7.3
	key, confounder, all := drawn(4, 16), drawn(5, 16), drawn(6, most)
	for _, n := range lengths() {
		for _, text := range [][]byte{all[:n], make([]byte, n), bytes.Repeat([]byte{255}, n)} {
			want := sealed(t, key, 7, confounder, text)
			got, e := seal.Seal(key, 7, confounder, text)
			if e != api.OK || len(got) != n+32 || !bytes.Equal(got, want) {
				t.Fatalf("Seal of %d bytes: %x, %v, want %x", n, got, e, want)
			}
			if back, e := seal.Open(key, 7, got); e != api.OK || !bytes.Equal(back, text) {
				t.Fatalf("Open of %d bytes: %x, %v, want %x", n+32, back, e, text)
			}
		}
	}
}

func TestSealAndOpenByEachUse(t *testing.T) { // 7.1, 7.2, 7.3
	for use := range 256 {
		key, confounder, text := drawn(uint64(use), 16), drawn(uint64(1000+use), 16), drawn(uint64(2000+use), use/3)
		want := sealed(t, key, use, confounder, text)
		got, e := seal.Seal(key, use, confounder, text)
		if e != api.OK || !bytes.Equal(got, want) {
			t.Errorf("Seal, use %d: %x, %v, want %x", use, got, e, want)
		}
		if back, e := seal.Open(key, use, want); e != api.OK || !bytes.Equal(back, text) {
			t.Errorf("Open, use %d: %x, %v, want %x", use, back, e, text)
		}
	}
}

func TestConfoundersThatAreEdges(t *testing.T) { // 7.1, 7.3
	key, text := drawn(7, 16), drawn(8, 20)
	for i, confounder := range [][]byte{make([]byte, 16), bytes.Repeat([]byte{255}, 16), key} {
		want := sealed(t, key, 0, confounder, text)
		if got, e := seal.Seal(key, 0, confounder, text); e != api.OK || !bytes.Equal(got, want) {
			t.Errorf("Seal, confounder %d: %x, %v, want %x", i, got, e, want)
		}
		if back, e := seal.Open(key, 0, want); e != api.OK || !bytes.Equal(back, text) {
			t.Errorf("Open, confounder %d: %x, %v, want %x", i, back, e, text)
		}
	}
}

func TestTagOfEachLength(t *testing.T) { // 7.2: no bound is named
	key := drawn(9, 16)
	for _, n := range append(lengths(), most+16, most+17, most+33, 1<<20) {
		b := drawn(uint64(n), n)
		if got, e := seal.Tag(key, 255, b); e != api.OK || !bytes.Equal(got, tagOf(t, key, 255, b)) {
			t.Errorf("Tag of %d bytes: %x, %v, want %x", n, got, e, tagOf(t, key, 255, b))
		}
	}
}

func TestTagStandsBehindWhatIsSealed(t *testing.T) { // 7.2, 7.4
	key, confounder := drawn(10, 16), drawn(11, 16)
	for _, n := range []int{0, 1, 15, 16, 17, 100} {
		b, _ := seal.Seal(key, 4, confounder, drawn(12, n))
		if tag, e := seal.Tag(key, 4, b[:n+16]); e != api.OK || !bytes.Equal(tag, b[n+16:]) {
			t.Errorf("Tag of what %d bytes are sealed to: %x, %v, want %x", n, tag, e, b[n+16:])
		}
	}
}

func TestTurnedBytesAreNotOpened(t *testing.T) { // 7.4
	key, confounder := drawn(13, 16), drawn(14, 16)
	for _, n := range []int{0, 1, 5, 15, 16, 17, 31, 32, 33, 48} {
		b, _ := seal.Seal(key, 4, confounder, drawn(15, n))
		for i := range b {
			for bit := range 8 {
				turned := bytes.Clone(b)
				turned[i] ^= 1 << bit
				if text, e := seal.Open(key, 4, turned); e != api.ErrSeal || len(text) != 0 {
					t.Errorf("Open of %d bytes, byte %d turned: %x, %v", len(b), i, text, e)
				}
			}
		}
	}
}

func TestWhatIsCutOrAddedIsNotOpened(t *testing.T) { // 7.2, 7.4
	key, confounder := drawn(16, 16), drawn(17, 16)
	b, _ := seal.Seal(key, 4, confounder, drawn(18, 50))
	for n := range b {
		want := api.ErrSeal
		if n < 32 {
			want = api.ErrShort
		}
		if text, e := seal.Open(key, 4, b[:n]); e != want || len(text) != 0 {
			t.Errorf("Open of the first %d bytes: %x, %v, want %v", n, text, e, want)
		}
		if text, e := seal.Open(key, 4, b[len(b)-n:]); e != want || len(text) != 0 {
			t.Errorf("Open of the last %d bytes: %x, %v, want %v", n, text, e, want)
		}
	}
	for _, more := range [][]byte{{0}, make([]byte, 16), b} {
		for _, other := range [][]byte{slices.Concat(b, more), slices.Concat(more, b)} {
			if text, e := seal.Open(key, 4, other); e != api.ErrSeal || len(text) != 0 {
				t.Errorf("Open with %d bytes more: %x, %v", len(more), text, e)
			}
		}
	}
}

func TestOtherUsesAndKeysDoNotOpen(t *testing.T) { // 7.4
	key, confounder := drawn(19, 16), drawn(20, 16)
	b, _ := seal.Seal(key, 12, confounder, []byte("text"))
	for use := range 256 {
		want := api.ErrSeal
		if use == 12 {
			want = api.OK
		}
		if text, e := seal.Open(key, use, b); e != want || (e != api.OK && len(text) != 0) {
			t.Errorf("Open by use %d: %x, %v, want %v", use, text, e, want)
		}
	}
	for i := range 128 {
		other := bytes.Clone(key)
		other[i/8] ^= 1 << (i % 8)
		if text, e := seal.Open(other, 12, b); e != api.ErrSeal || len(text) != 0 {
			t.Errorf("Open by a key with bit %d turned: %x, %v", i, text, e)
		}
	}
}

func TestWhateverHasTheRightTagIsOpened(t *testing.T) { // 7.4: all the same
	key := drawn(21, 16)
	for _, n := range lengths() {
		hidden := drawn(uint64(3000+n), n+16)
		tag, e := seal.Tag(key, 9, hidden)
		if e != api.OK {
			t.Fatal(e)
		}
		b := slices.Concat(hidden, tag)
		if text, e := seal.Open(key, 9, b); e != api.OK || !bytes.Equal(text, opened(t, key, 9, b)) {
			t.Errorf("Open of %d drawn bytes with their tag: %x, %v, want %x", len(hidden), text, e, opened(t, key, 9, b))
		}
	}
}

func TestOtherTextsAreSealedToOthers(t *testing.T) { // 7.5
	key, confounder := drawn(22, 16), drawn(23, 16)
	seen := map[string]string{}
	note := func(text []byte) {
		b, e := seal.Seal(key, 1, confounder, text)
		if e != api.OK {
			t.Fatal(e)
		}
		if other, ok := seen[string(b)]; ok && other != string(text) {
			t.Errorf("%x and %x are sealed to %x", other, text, b)
		}
		seen[string(b)] = string(text)
	}
	for n := range 70 {
		note(make([]byte, n)) // noughts are put behind a shorter block: they are to be told from the text's own
		note(drawn(24, n))
		for i := range n {
			one := make([]byte, n)
			one[i] = 1
			note(one)
		}
	}
}

func TestWhatMayNotBeSealed(t *testing.T) { // 7.1: ErrArg, ErrLong; rules 1 and 5
	right, long := drawn(25, 16), make([]byte, most+1)
	refused := func(what string, key []byte, use int, confounder, text []byte, want api.Errno) {
		t.Helper()
		if b, e := seal.Seal(key, use, confounder, text); e != want || len(b) != 0 {
			t.Errorf("Seal, %s: %d bytes, %v, want %v", what, len(b), e, want)
		}
	}
	for n := range 70 {
		if n == 16 {
			continue
		}
		wrong := drawn(26, n)
		for _, text := range [][]byte{nil, right, long} {
			refused("a key of "+strconv.Itoa(n), wrong, 1, right, text, api.ErrArg)
			refused("a confounder of "+strconv.Itoa(n), right, 1, wrong, text, api.ErrArg)
			refused("both of "+strconv.Itoa(n), wrong, 1, wrong, text, api.ErrArg)
		}
	}
	for _, use := range usesThatMayNot {
		refused("use "+strconv.Itoa(use), right, use, right, nil, api.ErrArg)
		refused("use "+strconv.Itoa(use)+", too long", right, use, right, long, api.ErrArg)
	}
	refused("no key, no confounder", nil, 1, nil, nil, api.ErrArg)
	refused("too long", right, 1, right, long, api.ErrLong)
	refused("far too long", right, 1, right, make([]byte, 1<<20), api.ErrLong)
}

func TestWhatMayNotBeOpened(t *testing.T) { // 7.2: ErrArg, ErrShort, ErrLong, ErrSeal; rules 1 and 5
	right := drawn(27, 16)
	refused := func(what string, key []byte, use int, b []byte, want api.Errno) {
		t.Helper()
		if text, e := seal.Open(key, use, b); e != want || len(text) != 0 {
			t.Errorf("Open, %s: %x, %v, want %v", what, text, e, want)
		}
	}
	for _, n := range []int{0, 1, 15, 16, 31, 32, 33, most + 32, most + 33, 1 << 20} {
		b := drawn(28, n)
		for _, k := range []int{0, 1, 15, 17, 32} {
			refused("a key of "+strconv.Itoa(k)+", of "+strconv.Itoa(n), drawn(29, k), 1, b, api.ErrArg)
		}
		for _, use := range usesThatMayNot {
			refused("use "+strconv.Itoa(use)+", of "+strconv.Itoa(n), right, use, b, api.ErrArg)
		}
		want := api.ErrSeal
		switch {
		case n < 32:
			want = api.ErrShort
		case n > most+32:
			want = api.ErrLong
		}
		refused("of "+strconv.Itoa(n), right, 1, b, want)
	}
	refused("none", right, 1, nil, api.ErrShort)
	refused("no key", nil, 1, nil, api.ErrArg)
	hidden := make([]byte, most+17)
	refused("one byte too many, by the right tag", right, 1, append(hidden, tagOf(t, right, 1, hidden)...), api.ErrLong)
	hidden = make([]byte, 15)
	refused("one byte too few, by the right tag", right, 1, append(hidden, tagOf(t, right, 1, hidden)...), api.ErrShort)
}

func TestKeysAndTagsThatMayNotBe(t *testing.T) { // 7.1, 7.2, rule 5
	right := drawn(30, 16)
	refused := func(key []byte, use int) {
		t.Helper()
		if first, second, e := seal.Keys(key, use); e != api.ErrArg || len(first) != 0 || len(second) != 0 {
			t.Errorf("Keys, a key of %d bytes, use %d: %x, %x, %v", len(key), use, first, second, e)
		}
		for _, b := range [][]byte{nil, right, make([]byte, most+100)} {
			if tag, e := seal.Tag(key, use, b); e != api.ErrArg || len(tag) != 0 {
				t.Errorf("Tag, a key of %d bytes, use %d: %x, %v", len(key), use, tag, e)
			}
		}
	}
	for n := range 70 {
		if n != 16 {
			refused(drawn(31, n), 1)
			refused(drawn(31, n), 256)
		}
	}
	for _, use := range usesThatMayNot {
		refused(right, use)
	}
	refused(nil, 0)
}

func TestNoneIsAsEmpty(t *testing.T) { // rule 3
	key, confounder := drawn(32, 16), drawn(33, 16)
	a, e := seal.Seal(key, 1, confounder, nil)
	b, f := seal.Seal(key, 1, confounder, []byte{})
	if e != api.OK || f != api.OK || !bytes.Equal(a, b) || len(a) != 32 {
		t.Errorf("Seal of none: %x, %v, of empty: %x, %v", a, e, b, f)
	}
	if text, e := seal.Open(key, 1, a); e != api.OK || len(text) != 0 {
		t.Errorf("Open of no text: %x, %v", text, e)
	}
	c, e := seal.Tag(key, 1, nil)
	d, f := seal.Tag(key, 1, []byte{})
	if e != api.OK || f != api.OK || !bytes.Equal(c, d) {
		t.Errorf("Tag of none: %x, %v, of empty: %x, %v", c, e, d, f)
	}
}

func TestNothingHandedInIsChangedOrShared(t *testing.T) { // rule 4
	for _, n := range []int{0, 1, 15, 16, 17, 40} {
		whole := drawn(uint64(n), 300) // what is handed in has room behind it, for what may not be put there
		key, confounder, text := whole[10:26], whole[40:56], whole[56:56+n]
		b, _ := seal.Seal(key, 3, confounder, text)
		copy(whole[120:], b)
		in := whole[120 : 120+len(b)]
		kept := bytes.Clone(whole)
		calls := map[string]func() [][]byte{
			"Seal": func() [][]byte { out, _ := seal.Seal(key, 3, confounder, text); return [][]byte{out} },
			"Open": func() [][]byte { out, _ := seal.Open(key, 3, in); return [][]byte{out} },
			"Keys": func() [][]byte { first, second, _ := seal.Keys(key, 3); return [][]byte{first, second} },
			"Tag":  func() [][]byte { out, _ := seal.Tag(key, 3, in); return [][]byte{out} },
			"one memory for all": func() [][]byte {
				out, _ := seal.Seal(key, 3, key, key)
				tag, _ := seal.Tag(key, 3, key)
				return [][]byte{out, tag}
			},
		}
		for what, call := range calls {
			out := call()
			var was [][]byte
			for _, list := range out {
				was = append(was, bytes.Clone(list))
			}
			for i, list := range out { // all its room is the caller's: no other list of the answer lies there
				for j := range list[:cap(list)] {
					list[:cap(list)][j] ^= 255
				}
				if i+1 < len(out) && !bytes.Equal(out[i+1], was[i+1]) {
					t.Errorf("%s: two lists of one answer share memory", what)
				}
			}
			if !bytes.Equal(whole, kept) {
				t.Fatalf("%s, a text of %d bytes: what is handed in is changed or shared", what, n)
			}
			if again := call(); !slices.EqualFunc(again, was, bytes.Equal) {
				t.Errorf("%s, a text of %d bytes: it hangs on what became of an elder answer", what, n)
			}
		}
	}
}

func TestNoMoreIsHandedOutThanWasAskedFor(t *testing.T) { // rule 4
	key, confounder := drawn(34, 16), drawn(35, 16)
	b, _ := seal.Seal(key, 1, confounder, []byte("hello"))
	text, _ := seal.Open(key, 1, b)
	first, second, _ := seal.Keys(key, 1)
	tag, _ := seal.Tag(key, 1, b)
	for i, list := range [][]byte{b, text, first, second, tag} {
		for _, x := range list[len(list):cap(list)] {
			if x != 0 {
				t.Fatalf("behind list %d lie others: %x", i, list[:cap(list)])
			}
		}
	}
}

func TestRefusedCallsLeaveNoTrace(t *testing.T) { // P2
	key, confounder, text := drawn(36, 16), drawn(37, 16), drawn(38, 21)
	want := sealed(t, key, 5, confounder, text)
	turned := bytes.Clone(want)
	turned[0] ^= 1
	for n := range 20 {
		seal.Keys(key[:n%16], 5)
		seal.Tag(key, -1-n, text)
		seal.Seal(key, 256+n, confounder, text)
		seal.Seal(key, 5, confounder, make([]byte, most+1+n))
		seal.Open(key, 5, want[:n])
		seal.Open(key, 5, turned)
		if got, e := seal.Seal(key, 5, confounder, text); e != api.OK || !bytes.Equal(got, want) {
			t.Fatalf("Seal behind calls that are refused: %x, %v, want %x", got, e, want)
		}
		if back, e := seal.Open(key, 5, want); e != api.OK || !bytes.Equal(back, text) {
			t.Fatalf("Open behind calls that are refused: %x, %v, want %x", back, e, text)
		}
	}
}
