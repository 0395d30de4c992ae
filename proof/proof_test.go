package proof_test

import (
	"crypto/hkdf"
	"crypto/sha256"
	"math"
	"math/big"
	"math/rand/v2"
	"slices"
	"testing"

	"seneschal/api"
	"seneschal/grp"
	"seneschal/limb"
	"seneschal/proof"
)

var top = api.Nat{math.MaxUint64, math.MaxUint64, math.MaxUint64, math.MaxUint64}

// hex answers the number whose digits to the base 16 s has.
func hex(s string) api.Nat {
	a, e := limb.Parse(s)
	if e != api.OK {
		panic(s)
	}
	return a
}

// big1 answers the number a, as the library has it.
func big1(a api.Nat) *big.Int { return new(big.Int).SetBytes(limb.Bytes(a)) }

// nat answers the number n, which must have room.
func nat(n *big.Int) api.Nat {
	a, e := limb.Read(n.Bytes())
	if e != api.OK {
		panic(n.String())
	}
	return a
}

func more(a, b api.Nat) api.Nat {
	sum, over := limb.Add(a, b)
	if over {
		panic("no room")
	}
	return sum
}

func less(a api.Nat, n uint64) api.Nat {
	rest, _ := limb.Sub(a, limb.Of(n))
	return rest
}

// modulo answers the group of p, an odd number, with these G and H.
func modulo(p api.Nat, g, h uint64) api.Group {
	return api.Group{P: p, Q: nat(new(big.Int).Rsh(big1(p), 1)), G: limb.Of(g), H: limb.Of(h)}
}

// params answers the groups that there are.
func params(t *testing.T) []api.Group {
	t.Helper()
	var l []api.Group
	for k := range 2 {
		g, e := grp.Params(k)
		if e != api.OK {
			t.Fatalf("Params(%d): error %d", k, e)
		}
		l = append(l, g)
	}
	return l
}

// small answers groups of few members; the last one's P is no prime.
func small() []api.Group {
	of := func(p, g, h uint64) api.Group { return modulo(limb.Of(p), g, h) }
	return []api.Group{of(7, 2, 4), of(11, 4, 9), of(23, 4, 9), of(47, 4, 9), of(91, 16, 9)}
}

// groups answers those that there are, small ones, and those of the greatest safe prime and of the greatest number, whose only members are told.
func groups(t *testing.T) []api.Group {
	t.Helper()
	return slices.Concat(params(t), small(), []api.Group{modulo(less(top, 36112), 4, 9), modulo(top, 1, 1)})
}

// drawn answers n numbers of any size; their parts are often those at the edges.
func drawn(r *rand.Rand, n int) []api.Nat {
	out := make([]api.Nat, n)
	for i := range out {
		for k := range out[i] {
			switch r.IntN(4) {
			case 0:
			case 1:
				out[i][k] = math.MaxUint64
			default:
				out[i][k] = r.Uint64()
			}
		}
	}
	return out
}

// edges answers numbers around those from which on others count the same.
func edges(g api.Group) []api.Nat {
	return []api.Nat{{}, limb.Of(1), less(g.Q, 1), g.Q, more(g.Q, limb.Of(1)), more(g.Q, g.Q), less(top, 1), top}
}

// scalar answers a number from 1 to Q - 1.
func scalar(r *rand.Rand, g api.Group) api.Nat {
	n := big1(api.Nat{r.Uint64(), r.Uint64(), r.Uint64(), r.Uint64()})
	return more(nat(n.Mod(n, big1(less(g.Q, 1)))), limb.Of(1))
}

// member answers a member of g, which may be any.
func member(t *testing.T, r *rand.Rand, g api.Group) api.Nat {
	t.Helper()
	x, e := grp.Exp(g, g.G, drawn(r, 1)[0])
	if e != api.OK {
		t.Fatalf("error %d", e)
	}
	return x
}

// members answers all members of a small group.
func members(g api.Group) []api.Nat {
	var l []api.Nat
	for n := range g.P[0] {
		if grp.Is(g, limb.Of(n)) {
			l = append(l, limb.Of(n))
		}
	}
	return l
}

// power is x to the e modulo Q, by the library; a turned sign goes back.
func power(g api.Group, x api.Nat, e *big.Int) *big.Int {
	exponent := new(big.Int).Mod(e, big1(g.Q))
	return exponent.Exp(big1(x), exponent, big1(g.P))
}

// product is a times b modulo P, by the library.
func product(g api.Group, a, b *big.Int) api.Nat {
	out := new(big.Int).Mul(a, b)
	return nat(out.Mod(out, big1(g.P)))
}

func commitment(g api.Group, s, t api.Nat) api.Nat {
	return product(g, power(g, g.G, big1(s)), power(g, g.H, big1(t)))
}

// challenge is the chapter's word, by the library.
func challenge(g api.Group, l ...api.Nat) api.Nat {
	var all []byte
	for _, a := range append([]api.Nat{g.G, g.H}, l...) {
		all = append(all, big1(a).FillBytes(make([]byte, 32))...)
	}
	derived, err := hkdf.Key(sha256.New, all, nil, "scalar", 64)
	if err != nil {
		panic(err)
	}
	n := new(big.Int).SetBytes(derived)
	return nat(n.Mod(n, big1(g.Q)))
}

// answer is a and c times s, modulo Q.
func answer(g api.Group, a, c, s api.Nat) api.Nat {
	n := new(big.Int).Mul(big1(c), big1(s))
	return nat(n.Mod(n.Add(n, big1(a)), big1(g.Q)))
}

// forged are the V and W of the chapter's words.
func forged(g api.Group, b, u, k, c, y, z api.Nat) (api.Nat, api.Nat) {
	minus := new(big.Int).Neg(big1(c))
	v := product(g, power(g, b, big1(y)), power(g, u, minus))
	return v, product(g, big1(commitment(g, y, z)), power(g, k, minus))
}

// isRight is the chapter's word.
func isRight(g api.Group, b, u, k api.Nat, p api.Proof) bool {
	for _, a := range []api.Nat{p.C, p.Y, p.Z} {
		if big1(a).Cmp(big1(g.Q)) >= 0 {
			return false
		}
	}
	v, w := forged(g, b, u, k, p.C, p.Y, p.Z)
	return p.C == challenge(g, b, u, k, v, w)
}

// checked holds Check against what it must answer.
func checked(t *testing.T, what string, g api.Group, b, u, k api.Nat, p api.Proof) bool {
	t.Helper()
	want := api.ErrProof
	if isRight(g, b, u, k, p) {
		want = api.OK
	}
	if e := proof.Check(g, b, u, k, p); e != want {
		t.Errorf("%s, modulo %s: %v of %v, %v, %v: error %d, want %d", what, limb.Text(g.P), p, b, u, k, e, want)
	}
	return want == api.OK
}

// proved answers what Prove does, which must not be refused.
func proved(t *testing.T, g api.Group, b, s, u, x, y api.Nat) (api.Nat, api.Proof) {
	t.Helper()
	power, p, e := proof.Prove(g, b, s, u, x, y)
	if e != api.OK {
		t.Fatalf("Prove modulo %s: error %d", limb.Text(g.P), e)
	}
	return power, p
}

// isProved holds Prove against what it must answer.
func isProved(t *testing.T, g api.Group, b, s, u, x, y api.Nat) {
	t.Helper()
	raised, k := nat(power(g, b, big1(s))), commitment(g, s, u)
	c := challenge(g, b, raised, k, nat(power(g, b, big1(x))), commitment(g, x, y))
	want := api.Proof{C: c, Y: answer(g, x, c, s), Z: answer(g, y, c, u)}
	if got, p := proved(t, g, b, s, u, x, y); got != raised || p != want {
		t.Errorf("modulo %s, %v, %v, %v, %v, %v: %v, %v, want %v, %v", limb.Text(g.P), b, s, u, x, y, got, p, raised, want)
	}
}

func TestExample(t *testing.T) { // 9 to the 5
	u, _ := proved(t, params(t)[0], limb.Of(9), limb.Of(5), limb.Of(6), limb.Of(7), limb.Of(8))
	if u != limb.Of(59049) {
		t.Errorf("9 to the 5: %v", u)
	}
}

func TestProofsThatAreKnown(t *testing.T) { // 13.1: reckoned elsewhere
	n := limb.Of
	half, high := api.Nat{0, 0, 0, 1 << 63}, api.Nat{0, 0, 0, 1}
	for _, c := range []struct {
		k           int
		s, t, x, y  api.Nat
		u, c, ay, z string
	}{
		{0, n(5), n(6), n(7), n(8), "e6a9", "1b374d4c", "202ea050", "18c3f78c"},
		{0, top, half, less(top, 1), high, "24bbc8ce", "622c795", "16cf5beb", "20c6afac"},
		{
			1, n(5), n(6), n(7), n(8), "e6a9",
			"33d6e9efd27efc7f9800a1b656ed10a1ad97efa6d05d6ae9a43a4bf05216680",
			"1033291af1c7aee7df803288fb2a1532863f7ae4211d3169035237bb19a70087",
			"137097b9eeef9eafd9003ca46098e63ca118f9de8e2308179d95dc7a1ec86708",
		},
		{
			1, top, half, less(top, 1), high,
			"b0cbe35d7c8a3bb512fa81d49a2001a4ddeddeb23de456d4819cc84ffd2b7ee",
			"1525fea826128fe56f2d78de0ca10815ba6903d5018856a7944b8c309a5a98ea",
			"1aa6d6c1a86623e5b9f423bfdf4e283aff8a8d7c3c5fe360138060c5f5854fc8",
			"1bcf2aca158f8ec96a173ba4becb5ecaf2dbbe6b8134f68159c7ce587924e7ce",
		},
	} {
		u, p := proved(t, params(t)[c.k], n(9), c.s, c.t, c.x, c.y)
		if want := (api.Proof{C: hex(c.c), Y: hex(c.ay), Z: hex(c.z)}); u != hex(c.u) || p != want {
			t.Errorf("group %d, s %s: %v, %v, want %v", c.k, limb.Text(c.s), u, p, want)
		}
	}
}

func TestChallengesThatAreKnown(t *testing.T) { // 13.1: reckoned elsewhere
	for k, want := range [][]string{
		{"bf0a39f", "1b997183", "e14584", "1c4fc037"},
		{
			"200dbc5c3eae7cc036afa592ba7bc1f0b799a9a8fc22a4d1cfe5f735abd20998", "7cc1afae2223fd3fc2b624dab13f87f75ca080f9bad94c8a0ec1cfa2d7c7f88",
			"160c92bc4187a0d2dd68869d460e69db8e8c9e7d4b0a725d5894d238e3751c3c", "9f9742cd000878360d8c0f45870ce7ba81e932bd3d6a5445b780440f22d2a50",
		},
	} {
		one, two := limb.Of(1), limb.Of(2)
		for i, l := range [][]api.Nat{{}, {one, two}, {two, one}, {top}} {
			if c, e := proof.Challenge(params(t)[k], l...); c != hex(want[i]) || e != api.OK {
				t.Errorf("group %d, %v: %s, error %d, want %s", k, l, limb.Text(c), e, want[i])
			}
		}
	}
}

func TestChallenges(t *testing.T) { // 13.1: of any numbers, and of as many as there are; G and H count as they are
	r := rand.New(rand.NewPCG(13, 1))
	for _, g := range groups(t) {
		bases := []api.Group{g, {P: g.P, Q: g.Q, G: g.H, H: g.G}, {P: g.P, Q: g.Q}, {P: g.P, Q: g.Q, G: g.P, H: top}}
		for _, h := range bases {
			for _, n := range []int{0, 1, 2, 3, 5, 8, api.MaxItems, api.MaxItems + 1, 5000} {
				l := drawn(r, n)
				if c, e := proof.Challenge(h, l...); c != challenge(h, l...) || e != api.OK {
					t.Errorf("modulo %s, %d numbers: %v, error %d", limb.Text(g.P), n, c, e)
				}
			}
		}
		for _, l := range [][]api.Nat{nil, {}, edges(g), {{1, 2, 3, 4}}, {{0x0102030405060708, 0x090a0b0c0d0e0f10, 0x1112131415161718, 0x191a1b1c1d1e1f20}}} {
			if c, e := proof.Challenge(g, l...); c != challenge(g, l...) || e != api.OK {
				t.Errorf("modulo %s, %v: %v, error %d", limb.Text(g.P), l, c, e)
			}
		}
	}
}

func TestProofsOfManyNumbers(t *testing.T) { // 13.1: all numbers count modulo Q
	r := rand.New(rand.NewPCG(13, 2))
	for _, g := range groups(t) {
		for range 20 {
			l := drawn(r, 4)
			isProved(t, g, member(t, r, g), l[0], l[1], l[2], l[3])
		}
		for _, a := range edges(g) {
			for _, b := range edges(g) {
				isProved(t, g, g.G, a, b, b, a)
				isProved(t, g, g.H, a, b, a, b)
				isProved(t, g, limb.Of(1), a, a, b, b)
			}
		}
	}
}

func TestAllProofsOfASmallGroup(t *testing.T) { // 13.1: of each base, and of numbers up to Q and 1
	g := small()[1]
	for _, b := range members(g) {
		for n := range uint64(7 * 7 * 7 * 7) {
			isProved(t, g, b, limb.Of(n%7), limb.Of(n/7%7), limb.Of(n/49%7), limb.Of(n/343))
		}
	}
}

func TestAllChecksOfSmallGroups(t *testing.T) { // 13.2, 13.4: of each base, power, commitment and of all numbers beyond Q, too
	for _, c := range []struct {
		g    api.Group
		most uint64
	}{{small()[0], 7}, {small()[1], 6}} {
		l := members(c.g)
		count := map[bool]int{}
		for _, b := range l {
			for _, u := range l {
				for _, k := range l {
					for n := range c.most * c.most * c.most {
						p := api.Proof{C: limb.Of(n % c.most), Y: limb.Of(n / c.most % c.most), Z: limb.Of(n / c.most / c.most)}
						count[checked(t, "each", c.g, b, u, k, p)]++
					}
				}
			}
		}
		if count[true] < 100 || count[false] < 100 {
			t.Errorf("modulo %d: %v", c.g.P[0], count)
		}
	}
}

func TestForge(t *testing.T) { // 13.2: of any members; the numbers count modulo Q
	r := rand.New(rand.NewPCG(13, 3))
	for _, g := range groups(t) {
		forges := func(b, u, k, c, y, z api.Nat) {
			t.Helper()
			v, w, e := proof.Forge(g, b, u, k, c, y, z)
			if wantV, wantW := forged(g, b, u, k, c, y, z); v != wantV || w != wantW || e != api.OK {
				t.Errorf("modulo %s, %v, %v, %v, %v, %v, %v: %v, %v, error %d, want %v, %v", limb.Text(g.P), b, u, k, c, y, z, v, w, e, wantV, wantW)
			}
		}
		for range 20 {
			l := drawn(r, 3)
			forges(member(t, r, g), member(t, r, g), member(t, r, g), l[0], l[1], l[2])
		}
		for _, a := range edges(g) {
			for _, b := range edges(g) {
				forges(g.G, g.H, g.G, a, b, limb.Of(2))
				forges(g.H, limb.Of(1), g.G, a, limb.Of(3), b)
			}
		}
	}
}

func TestForgeTellsWhatWasHashed(t *testing.T) { // 13.2: the V and the W that the coins made
	r := rand.New(rand.NewPCG(13, 4))
	for _, g := range groups(t) {
		for range 10 {
			b, l := member(t, r, g), drawn(r, 4)
			u, p := proved(t, g, b, l[0], l[1], l[2], l[3])
			v, w, e := proof.Forge(g, b, u, commitment(g, l[0], l[1]), p.C, p.Y, p.Z)
			if v != nat(power(g, b, big1(l[2]))) || w != commitment(g, l[2], l[3]) || e != api.OK {
				t.Errorf("modulo %s: %v, %v, error %d", limb.Text(g.P), v, w, e)
			}
		}
	}
}

func TestWhatIsProvedIsRight(t *testing.T) { // 13.3
	r := rand.New(rand.NewPCG(13, 5))
	for _, g := range groups(t) {
		right := func(b, s, u, x, y api.Nat) {
			t.Helper()
			raised, p := proved(t, g, b, s, u, x, y)
			if e := proof.Check(g, b, raised, commitment(g, s, u), p); e != api.OK {
				t.Errorf("modulo %s: %v, %v, %v, %v, %v: error %d", limb.Text(g.P), b, s, u, x, y, e)
			}
		}
		for range 20 {
			l := drawn(r, 4)
			right(member(t, r, g), l[0], l[1], l[2], l[3])
		}
		for _, a := range edges(g) {
			for _, b := range edges(g) {
				right(g.H, a, b, b, a)
				right(limb.Of(1), a, b, a, b)
			}
		}
	}
}

func TestOfOthersNothingIsRight(t *testing.T) { // 13.4: where the base, the power, the commitment, G or H is another
	r := rand.New(rand.NewPCG(13, 6))
	for _, g := range params(t) {
		for range 10 {
			b, s, u := member(t, r, g), scalar(r, g), scalar(r, g)
			power, p := proved(t, g, b, s, u, scalar(r, g), scalar(r, g))
			k, one := commitment(g, s, u), limb.Of(1)
			another := commitment(g, more(s, one), u)
			for _, no := range [][3]api.Nat{
				{b, power, another}, {b, another, k}, {another, power, k}, {b, power, one}, {b, one, k}, {one, power, k},
				{b, k, power}, {power, b, k}, {k, power, b}, {b, power, power}, {b, b, k}, {k, k, k},
			} {
				if e := proof.Check(g, no[0], no[1], no[2], p); e != api.ErrProof {
					t.Errorf("modulo %s: %v: error %d", limb.Text(g.P), no, e)
				}
			}
			for _, h := range []api.Group{{P: g.P, Q: g.Q, G: g.H, H: g.G}, {P: g.P, Q: g.Q, G: g.G, H: another}, {P: g.P, Q: g.Q, G: another, H: g.H}} {
				if e := proof.Check(h, b, power, k, p); e != api.ErrProof {
					t.Errorf("modulo %s, by another G or H: error %d", limb.Text(g.P), e)
				}
			}
		}
	}
}

func TestChallengesThatAreChosenAheadAreNotRight(t *testing.T) { // 13.4: V and W that fit a chosen C have another challenge
	r := rand.New(rand.NewPCG(13, 11))
	for _, g := range params(t) {
		for range 10 {
			b, u, k := member(t, r, g), member(t, r, g), member(t, r, g)
			p := api.Proof{C: scalar(r, g), Y: scalar(r, g), Z: scalar(r, g)}
			if e := proof.Check(g, b, u, k, p); e != api.ErrProof {
				t.Errorf("modulo %s: error %d", limb.Text(g.P), e)
			}
			v, w, _ := proof.Forge(g, b, u, k, p.C, p.Y, p.Z)
			p.C, _ = proof.Challenge(g, b, u, k, v, w) // but then V and W are others
			if e := proof.Check(g, b, u, k, p); e != api.ErrProof {
				t.Errorf("modulo %s, by the challenge of what another one forged: error %d", limb.Text(g.P), e)
			}
		}
	}
}

func TestTheOneChallenge(t *testing.T) { // 13.4: a proof of nothing that is known is right by the challenge of what Forge tells, if it can be found
	r := rand.New(rand.NewPCG(13, 7))
	for _, g := range small()[:4] {
		found := 0
		for range 400 {
			b, u, k := member(t, r, g), member(t, r, g), member(t, r, g)
			p := api.Proof{C: scalar(r, g), Y: scalar(r, g), Z: scalar(r, g)}
			v, w, _ := proof.Forge(g, b, u, k, p.C, p.Y, p.Z)
			c, _ := proof.Challenge(g, b, u, k, v, w)
			if right := proof.Check(g, b, u, k, p) == api.OK; right != (c == p.C) {
				t.Errorf("modulo %d, %v, %v, %v, %v: %v", g.P[0], b, u, k, p, right)
			} else if right {
				found++
			}
		}
		if found == 0 || found == 400 {
			t.Errorf("modulo %d: %d of 400 are right", g.P[0], found)
		}
	}
}

func TestTurnedProofs(t *testing.T) { // 13.5: each number, at each bit; and numbers that are another's
	r := rand.New(rand.NewPCG(13, 8))
	for _, g := range params(t) {
		b, s, n := member(t, r, g), scalar(r, g), scalar(r, g)
		u, p := proved(t, g, b, s, n, scalar(r, g), scalar(r, g))
		k := commitment(g, s, n)
		var turned []api.Proof
		for bit := range 256 {
			flip := api.Nat{}
			flip[bit/64] = 1 << (bit % 64)
			xor := func(a api.Nat) api.Nat {
				for i := range a {
					a[i] ^= flip[i]
				}
				return a
			}
			turned = append(turned, api.Proof{C: xor(p.C), Y: p.Y, Z: p.Z}, api.Proof{C: p.C, Y: xor(p.Y), Z: p.Z}, api.Proof{C: p.C, Y: p.Y, Z: xor(p.Z)})
		}
		turned = append(turned, api.Proof{}, api.Proof{C: p.C, Y: p.Z, Z: p.Y}, api.Proof{C: p.Y, Y: p.C, Z: p.Z}, api.Proof{C: p.C})
		for _, not := range turned {
			if e := proof.Check(g, b, u, k, not); e != api.ErrProof {
				t.Errorf("modulo %s: %v instead of %v: error %d", limb.Text(g.P), not, p, e)
			}
		}
	}
}

func TestTurnedProofsOfSmallGroups(t *testing.T) { // 13.5: right just if C is the challenge of what Forge tells then
	r := rand.New(rand.NewPCG(13, 9))
	for _, g := range small() {
		count := map[bool]int{}
		for range 20 {
			b, l := member(t, r, g), drawn(r, 4)
			u, p := proved(t, g, b, l[0], l[1], l[2], l[3])
			k := commitment(g, l[0], l[1])
			for n := range g.Q[0] {
				y, z := p, p
				y.Y, z.Z = limb.Of(n), limb.Of(n)
				for _, turned := range []api.Proof{y, z} {
					if turned != p {
						count[checked(t, "turned", g, b, u, k, turned)]++
					}
				}
			}
		}
		if count[true] == 0 || count[false] == 0 {
			t.Errorf("modulo %d: %v", g.P[0], count)
		}
	}
}

func TestNumbersFromQOnAreNotRight(t *testing.T) { // 13.2: though they count the same in powers
	r := rand.New(rand.NewPCG(13, 10))
	for _, g := range groups(t) {
		for range 10 {
			b, l := member(t, r, g), drawn(r, 4)
			u, p := proved(t, g, b, l[0], l[1], l[2], l[3])
			k := commitment(g, l[0], l[1])
			c, y, z := p, p, p
			c.C, y.Y, z.Z = more(p.C, g.Q), more(p.Y, g.Q), more(p.Z, g.Q)
			for _, not := range []api.Proof{c, y, z, {C: c.C, Y: y.Y, Z: z.Z}} {
				if e := proof.Check(g, b, u, k, not); e != api.ErrProof {
					t.Errorf("modulo %s: %v instead of %v: error %d", limb.Text(g.P), not, p, e)
				}
			}
		}
	}
}
