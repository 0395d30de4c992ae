package grp_test

import (
	"bytes"
	"crypto/hkdf"
	"crypto/sha256"
	"encoding/binary"
	"math/big"
	"slices"
	"testing"

	"seneschal/api"
	"seneschal/grp"
	"seneschal/limb"
)

// digest is the chapter's word, reckoned by the library.
func digest(text string, b []byte, m api.Nat) *big.Int {
	derived, err := hkdf.Key(sha256.New, b, nil, text, 64)
	if err != nil {
		panic(err)
	}
	n := new(big.Int).SetBytes(derived)
	return n.Mod(n, big1(m))
}

// member answers what the bytes are as a member, and by which counter.
func member(p api.Nat, b []byte) (api.Nat, uint64) {
	for n := range uint64(64) {
		x := digest("member", append(binary.BigEndian.AppendUint64(nil, n), b...), p)
		if x.Mod(x.Mul(x, x), big1(p)); x.Cmp(big.NewInt(1)) > 0 {
			return nat(x), n
		}
	}
	return one, 64
}

// texts answers bytes of many lengths.
func texts() [][]byte {
	l := [][]byte{nil, {}, {0}, {104}, []byte("x"), []byte("member"), bytes.Repeat([]byte{255}, 4096), make([]byte, 1<<17)}
	for n := range 70 {
		b := bytes.Repeat([]byte{byte(n)}, n)
		l = append(l, b)
	}
	return l
}

func TestMembersAndScalarsThatAreKnown(t *testing.T) { // 9.2: reckoned elsewhere
	for _, c := range []struct {
		k                    int
		text, member, scalar string
	}{
		{0, "", "292e398f", "1ff4e006"},
		{0, "x", "25d50258", "1fb22ae8"},
		{1, "", "12cad8a87737dbbab223695b4b75050afd409fa69e08cc5fab6b6e2f1005f369", "15f028c00a719d07d23e70fd753c88cdc6184e6fd0da49c61478c3a68ce6a95c"},
		{1, "x", "41ade91493fe5fcc68bf4d511dea64363be9ecb30d7bd9714c8cbec3593beee3", "1d23af911e054aa9c97891fd5c5edeb0d0df5be7578fe66cabbb12f271da08d8"},
	} {
		g := params(t, c.k)
		x, e := grp.Member(g, []byte(c.text))
		is(t, "Member of "+c.text, x, e, hex(c.member))
		x, e = grp.Scalar(g, []byte(c.text))
		is(t, "Scalar of "+c.text, x, e, hex(c.scalar))
	}
}

func TestMembersAndScalarsOfManyTexts(t *testing.T) { // 9.2, 9.5
	for _, g := range slices.Concat(small(), great(t)) {
		for _, b := range texts() {
			x, e := grp.Member(g, b)
			want, _ := member(g.P, b)
			is(t, "Member", x, e, want)
			if !grp.Is(g, x) || x == one {
				t.Errorf("modulo %s: the member %s of %d bytes", limb.Text(g.P), limb.Text(x), len(b))
			}
			x, e = grp.Scalar(g, b)
			is(t, "Scalar", x, e, nat(digest("scalar", b, g.Q)))
			if limb.Compare(x, g.Q) >= 0 {
				t.Errorf("modulo %s: the scalar %s of %d bytes", limb.Text(g.Q), limb.Text(x), len(b))
			}
		}
	}
}

func TestMembersModuloWhatIsNoPrime(t *testing.T) { // 9.2: the group is used as it is
	for _, g := range composite() {
		for _, b := range texts() {
			x, e := grp.Member(g, b)
			want, _ := member(g.P, b)
			is(t, "Member", x, e, want)
			x, e = grp.Scalar(g, b)
			is(t, "Scalar", x, e, nat(digest("scalar", b, g.Q)))
		}
	}
}

func TestMembersByLaterCounters(t *testing.T) { // 9.2: of few members many squares are 0 or 1
	seen := map[uint64]int{}
	for _, g := range small() {
		for n := range uint32(3000) {
			b := binary.BigEndian.AppendUint32(nil, n)
			want, counter := member(g.P, b)
			seen[counter]++
			x, e := grp.Member(g, b)
			is(t, "Member", x, e, want)
		}
	}
	for n := range uint64(7) {
		if seen[n] == 0 {
			t.Errorf("no member came by the counter %d", n)
		}
	}
	x, e := grp.Member(modulo(limb.Of(7)), []byte{0, 34, 236}) // 14 counters: reckoned elsewhere
	is(t, "Member", x, e, limb.Of(2))
}

func TestBytesStayAsTheyAre(t *testing.T) { // rule 4
	g := params(t, 1)
	b := append(make([]byte, 0, 100), "some bytes"...)
	whole := bytes.Clone(b[:cap(b)])
	first, _ := grp.Member(g, b)
	scalar, _ := grp.Scalar(g, b)
	if !bytes.Equal(b[:cap(b)], whole) {
		t.Error("what was handed in, or what lies behind it, is changed")
	}
	again, e := grp.Member(g, b)
	is(t, "Member again", again, e, first)
	again, e = grp.Scalar(g, b)
	is(t, "Scalar again", again, e, scalar)
}
