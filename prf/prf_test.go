package prf_test

import (
	"bytes"
	"crypto/hkdf"
	"crypto/sha256"
	"encoding/binary"
	"encoding/hex"
	"math"
	"math/big"
	"math/rand/v2"
	"slices"
	"testing"

	"seneschal/api"
	"seneschal/grp"
	"seneschal/joint"
	"seneschal/limb"
	"seneschal/prf"
	"seneschal/proof"
	"seneschal/vss"
)

const most = api.MaxTol + 1 // commitments of a dealing

var top = api.Nat{math.MaxUint64, math.MaxUint64, math.MaxUint64, math.MaxUint64}

// read answers the number whose digits to the base 16 s has.
func read(s string) api.Nat {
	a, e := limb.Parse(s)
	if e != api.OK {
		panic(s)
	}
	return a
}

// big1 answers the number a, as the library has it.
func big1(a api.Nat) *big.Int { return new(big.Int).SetBytes(limb.Bytes(a)) }

// nat answers the number n, which must have room.
func nat(n *big.Int) api.Nat {
	a, e := limb.Read(n.Bytes())
	if e != api.OK {
		panic(n.String())
	}
	return a
}

// list answers numbers of these.
func list(l ...uint64) []api.Nat {
	out := make([]api.Nat, len(l))
	for i, n := range l {
		out[i] = limb.Of(n)
	}
	return out
}

func more(a, b api.Nat) api.Nat {
	sum, over := limb.Add(a, b)
	if over {
		panic("no room")
	}
	return sum
}

func less(a api.Nat, n uint64) api.Nat {
	rest, _ := limb.Sub(a, limb.Of(n))
	return rest
}

// modulo answers the group of p, an odd number, with these G and H.
func modulo(p api.Nat, g, h uint64) api.Group {
	return api.Group{P: p, Q: nat(new(big.Int).Rsh(big1(p), 1)), G: limb.Of(g), H: limb.Of(h)}
}

// params answers the groups that there are.
func params(t *testing.T) []api.Group {
	t.Helper()
	var l []api.Group
	for k := range 2 {
		g, e := grp.Params(k)
		if e != api.OK {
			t.Fatalf("Params(%d): error %d", k, e)
		}
		l = append(l, g)
	}
	return l
}

// small answers groups of few members, whose Q some nodes are beyond.
func small() []api.Group {
	of := func(p, g, h uint64) api.Group { return modulo(limb.Of(p), g, h) }
	return []api.Group{of(7, 2, 4), of(11, 4, 9), of(23, 4, 9), of(47, 4, 9)}
}

// groups answers those that there are, small ones, and the greatest.
func groups(t *testing.T) []api.Group {
	t.Helper()
	return slices.Concat(params(t), small(), []api.Group{modulo(less(top, 36112), 4, 9)})
}

// drawn answers n numbers of any size; their parts are often those at the edges.
func drawn(r *rand.Rand, n int) []api.Nat {
	out := make([]api.Nat, n)
	for i := range out {
		for k := range out[i] {
			switch r.IntN(4) {
			case 0:
			case 1:
				out[i][k] = math.MaxUint64
			default:
				out[i][k] = r.Uint64()
			}
		}
	}
	return out
}

// edges answers numbers around those from which on others count the same.
func edges(g api.Group) []api.Nat {
	return []api.Nat{{}, limb.Of(1), less(g.Q, 1), g.Q, more(g.Q, limb.Of(1)), more(g.Q, g.Q), less(top, 1), top}
}

// texts answers bytes at which the function is asked: none, few, and as many as may be.
func texts() [][]byte {
	return [][]byte{nil, {}, {0}, {0, 0}, []byte("x"), []byte("any bytes"), bytes.Repeat([]byte{255}, 64), make([]byte, api.MaxBytes)}
}

// derived is the chapters' digest modulo m of a text and bytes, by the library.
func derived(m api.Nat, text string, b []byte) *big.Int {
	l, err := hkdf.Key(sha256.New, b, nil, text, 64)
	if err != nil {
		panic(err)
	}
	n := new(big.Int).SetBytes(l)
	return n.Mod(n, big1(m))
}

// member is the member of x, by the library.
func member(g api.Group, x []byte) *big.Int {
	one := big.NewInt(1)
	for k := range uint64(64) {
		n := derived(g.P, "member", append(binary.BigEndian.AppendUint64(nil, k), x...))
		if n.Exp(n, big.NewInt(2), big1(g.P)); n.Cmp(one) > 0 {
			return n
		}
	}
	return one
}

// value is the function of k at x, by the library.
func value(g api.Group, x []byte, k api.Nat) api.Nat {
	n := new(big.Int).Mod(big1(k), big1(g.Q))
	return nat(n.Exp(member(g, x), n, big1(g.P)))
}

// coin is the scalar of the bytes of u, those of one number of a share, and a mark.
func coin(g api.Group, u, half api.Nat, mark byte) api.Nat {
	return nat(derived(g.Q, "scalar", slices.Concat(limb.Bytes(u), limb.Bytes(half), []byte{mark})))
}

// partial is the partial of a share, by the layers below.
func partial(t *testing.T, g api.Group, x []byte, s api.Share) api.Partial {
	t.Helper()
	u := value(g, x, s.S)
	raised, p, e := proof.Prove(g, nat(member(g, x)), s.S, s.T, coin(g, u, s.S, 1), coin(g, u, s.T, 2))
	if raised != u || e != api.OK {
		t.Fatalf("Prove: %v, error %d, want %v", raised, e, u)
	}
	return api.Partial{Node: s.Node, U: u, Proof: p}
}

// evaluated answers the partial that Eval makes of a share, which must not be refused.
func evaluated(t *testing.T, g api.Group, x []byte, s api.Share) api.Partial {
	t.Helper()
	p, e := prf.Eval(g, x, s)
	if e != api.OK {
		t.Fatalf("Eval modulo %s: error %d", limb.Text(g.P), e)
	}
	return p
}

// dealt is a dealing with its shares, and their partials at x, of the nodes from 1 on.
type dealt struct {
	deal   api.Deal
	secret api.Nat
	shares []api.Share
	x      []byte
	parts  []api.Partial
}

// deals answers the dealing of s and u, with partials at x.
func deals(t *testing.T, g api.Group, x []byte, s, u []api.Nat) dealt {
	t.Helper()
	d, e := vss.Deal(g, 1, s, u)
	if e != api.OK {
		t.Fatalf("Deal: error %d", e)
	}
	out := dealt{deal: d, secret: s[0], x: x}
	for node := 1; node <= api.MaxNodes; node++ {
		share, e := vss.Share(g, node, s, u)
		if e != api.OK {
			t.Fatalf("Share of node %d: error %d", node, e)
		}
		out.shares = append(out.shares, share)
		out.parts = append(out.parts, evaluated(t, g, x, share))
	}
	return out
}

// random answers a dealing of any numbers.
func random(t *testing.T, r *rand.Rand, g api.Group, size int, x []byte) dealt {
	t.Helper()
	return deals(t, g, x, drawn(r, size), drawn(r, size))
}

// few answers a dealing of 5 and 11 x, 3 and 8 x, with partials at the text x.
func few(t *testing.T, g api.Group) dealt {
	t.Helper()
	return deals(t, g, []byte("x"), list(5, 11), list(3, 8))
}

// at answers the partials of these nodes.
func (d dealt) at(nodes ...int) []api.Partial {
	var l []api.Partial
	for _, n := range nodes {
		l = append(l, d.parts[n-1])
	}
	return l
}

// combined holds Combine against what it must answer.
func combined(t *testing.T, what string, g api.Group, d dealt, want api.Nat, l ...api.Partial) {
	t.Helper()
	if w, e := prf.Combine(g, d.deal, d.x, l...); w != want || e != api.OK {
		t.Errorf("%s, modulo %s: %v, error %d, want %v", what, limb.Text(g.P), w, e, want)
	}
}

// isRight tells whether a partial is right by d, by the layers below.
func isRight(g api.Group, d api.Deal, x []byte, p api.Partial) bool {
	held, e := vss.At(g, d, p.Node)
	return e == api.OK && proof.Check(g, nat(member(g, x)), p.U, held, p.Proof) == api.OK
}

// checked holds Check against what it must answer.
func checked(t *testing.T, what string, g api.Group, d api.Deal, x []byte, p api.Partial) bool {
	t.Helper()
	want := api.ErrProof
	if isRight(g, d, x, p) {
		want = api.OK
	}
	if e := prf.Check(g, d, x, p); e != want {
		t.Errorf("%s, modulo %s: %v: error %d, want %d", what, limb.Text(g.P), p, e, want)
	}
	return want == api.OK
}

// nextMember answers another member than u, and than 1.
func nextMember(g api.Group, u api.Nat) api.Nat {
	for n := uint64(2); ; n++ {
		if x := limb.Of(n); x != u && grp.Is(g, x) {
			return x
		}
	}
}

func TestExample(t *testing.T) { // two of three partials of a secret 5 come to the member of x to the 5
	for _, g := range params(t) {
		d := few(t, g)
		want := nat(new(big.Int).Exp(member(g, d.x), big.NewInt(5), big1(g.P)))
		for _, l := range [][]api.Partial{d.at(1, 2), d.at(2, 1), d.at(1, 3), d.at(3, 1), d.at(2, 3), d.at(3, 2), d.at(3, 1, 2)} {
			combined(t, "two of three", g, d, want, l...)
		}
	}
}

func TestPartialsThatAreKnown(t *testing.T) { // 14.1: reckoned elsewhere
	half := api.Nat{0, 0, 0, 1 << 63}
	for _, c := range []struct {
		k          int
		x          []byte
		s, t       api.Nat
		u, c, y, z string
	}{
		{0, nil, limb.Of(5), limb.Of(6), "33ea7dc", "1071a943", "1ae150e5", "2080945f"},
		{0, []byte("x"), limb.Of(5), limb.Of(3), "34a21771", "1f56455b", "298d9ce", "7716fd8"},
		{0, []byte("x"), top, half, "3cfca182", "2453d5d", "17b10136", "cd8188e"},
		{0, make([]byte, 4096), limb.Of(7), limb.Of(581039633 + 7), "34986655", "b4111a4", "1771542e", "201fa8a4"},
		{
			1, nil, limb.Of(5), limb.Of(6), "b008281c0af46d8bfd71c81b53620df4cb629d84ebd9cafe4e1b931b287e696",
			"13167933dddf7df9eadbd0ab9b5d2df8873604d88175dc77e784441212511522",
			"253c5cd125f5234e542c05804542d3e1b0643241e0a6ebddf9e480420750561",
			"45b61550c58278c1d85a70b1a5ab20bb7022e9bf0001ddd4fea9deac3cf1d",
		},
		{
			1, []byte("x"), top, half, "23554de9c6585e8e3801011611df3fdd608d348995022d7025d6c4257342370d",
			"77dcd3cb5914ea538d64539f20521dd6905f6635d41dd18d77f68a4b8f2f4c9",
			"17209c2de877eeec8933235038b76baa2dc1bf1c11b8480a616926d3cae5f6ad",
			"12c47fac8f35d9a5d4eb7e26242606c02a1c4c8488dfc17e3c8996867200d8c5",
		},
	} {
		p := evaluated(t, params(t)[c.k], c.x, api.Share{Node: 3, S: c.s, T: c.t})
		want := api.Partial{Node: 3, U: read(c.u), Proof: api.Proof{C: read(c.c), Y: read(c.y), Z: read(c.z)}}
		if p != want {
			t.Errorf("group %d, s %s: %v, want %v", c.k, limb.Text(c.s), p, want)
		}
	}
}

func TestKeysThatAreKnown(t *testing.T) { // 14.1: reckoned elsewhere
	for _, c := range []struct {
		x    []byte
		w    api.Nat
		want string
	}{
		{nil, api.Nat{}, "1ab5192c9295d63c14f01de452f9c9e9"}, {[]byte{}, api.Nat{}, "1ab5192c9295d63c14f01de452f9c9e9"},
		{[]byte("x"), limb.Of(5), "b4bc70a8ae65a06f6fac1a2a60b65990"}, {[]byte("x"), top, "1db83a194e3ee17cbe26724314e00423"},
		{bytes.Repeat([]byte{1}, 4096), api.Nat{0, 0, 0, 1 << 63}, "a4a36da6bf19366e3c9f53dc5ce8a0b3"},
	} {
		if k, e := prf.Key(c.x, c.w); hex.EncodeToString(k) != c.want || e != api.OK {
			t.Errorf("%v: %x, error %d, want %s", c.w, k, e, c.want)
		}
	}
}

func TestKeys(t *testing.T) { // 14.1: of each number, and of all bytes of it
	r := rand.New(rand.NewPCG(14, 1))
	numbers := append(drawn(r, 10), api.Nat{1, 2, 3, 4}, api.Nat{0x0102030405060708, 0x090a0b0c0d0e0f10, 0x1112131415161718, 0x191a1b1c1d1e1f20})
	for _, x := range texts() {
		for _, w := range numbers {
			want, err := hkdf.Key(sha256.New, limb.Bytes(w), x, "key", 16)
			if k, e := prf.Key(x, w); !bytes.Equal(k, want) || e != api.OK || err != nil {
				t.Errorf("%d bytes, %v: %x, error %d, want %x, %v", len(x), w, k, e, want, err)
			}
		}
	}
}

func TestValues(t *testing.T) { // 14.1: of each secret, which counts modulo Q, and of any bytes
	r := rand.New(rand.NewPCG(14, 2))
	for _, g := range groups(t) {
		for _, x := range texts() {
			for _, k := range append(drawn(r, 5), edges(g)...) {
				if w, e := prf.Value(g, x, k); w != value(g, x, k) || e != api.OK {
					t.Errorf("modulo %s, %v: %v, error %d, want %v", limb.Text(g.P), k, w, e, value(g, x, k))
				}
			}
		}
	}
}

func TestPartials(t *testing.T) { // 14.1: of each node, of any share, which need not be right, and of any bytes
	r := rand.New(rand.NewPCG(14, 3))
	for _, g := range groups(t) {
		makes := func(x []byte, s api.Share) {
			t.Helper()
			if p := evaluated(t, g, x, s); p != partial(t, g, x, s) {
				t.Errorf("modulo %s, %v: %v, want %v", limb.Text(g.P), s, p, partial(t, g, x, s))
			}
		}
		for i, x := range texts() {
			for node := 1 + i%4; node <= api.MaxNodes; node += 5 {
				l := drawn(r, 2)
				makes(x, api.Share{Node: node, S: l[0], T: l[1]})
			}
		}
		for node, a := range edges(g) {
			for _, b := range edges(g) {
				makes([]byte("x"), api.Share{Node: node + 1, S: a, T: b})
			}
		}
	}
}

func TestCoinsAreOfAllOfTheShare(t *testing.T) { // 14.1: V is the member to the first, W the commitment to both
	g := params(t)[1]
	base := nat(member(g, []byte("x")))
	for _, s := range []api.Share{{Node: 1, S: limb.Of(5), T: limb.Of(5)}, {Node: 2, S: limb.Of(5), T: limb.Of(6)}, {Node: 1, S: more(limb.Of(5), g.Q), T: limb.Of(5)}} {
		p := evaluated(t, g, []byte("x"), s)
		k, _ := grp.Commit(g, s.S, s.T)
		v, w, e := proof.Forge(g, base, p.U, k, p.Proof.C, p.Proof.Y, p.Proof.Z)
		a, b := coin(g, p.U, s.S, 1), coin(g, p.U, s.T, 2)
		wantV, _ := grp.Exp(g, base, a)
		wantW, _ := grp.Commit(g, a, b)
		if v != wantV || w != wantW || e != api.OK {
			t.Errorf("%v: %v, %v, error %d, want %v, %v", s, v, w, e, wantV, wantW)
		}
	}
}

func TestPartialsOfRightSharesAreRight(t *testing.T) { // 14.4: at each node, of each size
	r := rand.New(rand.NewPCG(14, 4))
	for _, g := range groups(t) {
		for size := 1; size <= most; size++ {
			d := random(t, r, g, size, texts()[size])
			for _, p := range d.parts {
				if e := prf.Check(g, d.deal, d.x, p); e != api.OK || !isRight(g, d.deal, d.x, p) {
					t.Errorf("modulo %s, node %d, %d commitments: error %d", limb.Text(g.P), p.Node, size, e)
				}
			}
		}
	}
}

// turns answers partials of which one thing is turned.
func turns(g api.Group, p api.Partial) []api.Partial {
	node, c, y, z, u := p, p, p, p, p
	node.Node = p.Node%api.MaxNodes + 1
	c.Proof.C[0] ^= 1
	y.Proof.Y[0] ^= 2
	z.Proof.Z[0] ^= 4
	u.U = nextMember(g, p.U)
	one, inverse, more1 := p, p, p
	one.U = limb.Of(1)
	inverse.U, _ = grp.Inverse(g, p.U)
	more1.Proof.C = more(p.Proof.C, g.Q)
	return []api.Partial{node, c, y, z, u, one, inverse, more1, {Node: p.Node, U: p.U}, {Node: p.Node, Proof: p.Proof}}
}

func TestTurnedPartialsAreNotRight(t *testing.T) { // 14.1, 14.4: by other bytes, another dealing, another node, too
	r := rand.New(rand.NewPCG(14, 5))
	for _, g := range params(t) {
		d, other := random(t, r, g, 3, []byte("x")), random(t, r, g, 3, []byte("x"))
		for i, p := range d.parts {
			for k, no := range turns(g, p) {
				if checked(t, "turned", g, d.deal, d.x, no) {
					t.Errorf("turned in way %d, it is right: %v", k, no)
				}
			}
			if checked(t, "other bytes", g, d.deal, []byte("y"), p) || checked(t, "another dealing", g, other.deal, d.x, p) {
				t.Errorf("it is right at other bytes, or by another dealing: %v", p)
			}
			s := d.shares[i]
			s.T = more(s.T, limb.Of(1))
			if checked(t, "a share that is not right", g, d.deal, d.x, evaluated(t, g, d.x, s)) {
				t.Errorf("of a share that is not right it is right: %v", s)
			}
		}
	}
}

func TestAllPartialsOfASmallGroup(t *testing.T) { // 14.4: with each U it is right just by the one challenge
	for _, g := range small()[:2] {
		for size := 1; size <= 2; size++ {
			d := deals(t, g, []byte("x"), list(3, 2)[:size], list(5, 7)[:size])
			count := map[bool]int{}
			for _, p := range d.parts {
				for u := range g.P[0] + 2 {
					for n := range (g.Q[0] + 1) * (g.Q[0] + 1) {
						q := p
						q.U, q.Proof.C, q.Proof.Y = limb.Of(u), limb.Of(n%(g.Q[0]+1)), limb.Of(n/(g.Q[0]+1))
						count[checked(t, "each", g, d.deal, d.x, q)]++
					}
				}
			}
			if count[true] < 16 || count[false] < 1000 {
				t.Errorf("modulo %d: %v", g.P[0], count)
			}
		}
	}
}

func TestATurnedUIsRightByItsChallengeAlone(t *testing.T) { // 14.4
	r := rand.New(rand.NewPCG(14, 6))
	for _, g := range slices.Concat(params(t), small()) {
		d := random(t, r, g, 2, []byte("x"))
		base := nat(member(g, d.x))
		for _, p := range d.parts {
			p.U = nextMember(g, p.U)
			held, _ := vss.At(g, d.deal, p.Node)
			v, w, _ := proof.Forge(g, base, p.U, held, p.Proof.C, p.Proof.Y, p.Proof.Z)
			c, _ := proof.Challenge(g, base, p.U, held, v, w)
			want := api.ErrProof
			if c == p.Proof.C {
				want = api.OK
			}
			if e := prf.Check(g, d.deal, d.x, p); e != want {
				t.Errorf("modulo %s, %v: error %d, want %d", limb.Text(g.P), p, e, want)
			}
		}
	}
}

func TestAnyPartialsComeToTheValue(t *testing.T) { // 14.3: whichever nodes they are of, in any order, of each size
	r := rand.New(rand.NewPCG(14, 7))
	for _, g := range groups(t)[:2] {
		for size := 1; size <= most; size++ {
			d := random(t, r, g, size, texts()[size+1])
			want := value(g, d.x, d.secret)
			for n := size; n <= api.MaxNodes; n++ {
				l := slices.Clone(d.parts)
				r.Shuffle(len(l), func(i, j int) { l[i], l[j] = l[j], l[i] })
				combined(t, "any nodes", g, d, want, l[:n]...)
			}
		}
	}
}

func TestAllPairsOfNodesComeToTheValue(t *testing.T) { // 14.3
	for _, g := range append(params(t), modulo(less(top, 36112), 4, 9)) {
		d := few(t, g)
		want := value(g, d.x, d.secret)
		for a := range api.MaxNodes {
			for b := range api.MaxNodes {
				if a != b {
					combined(t, "two nodes", g, d, want, d.parts[a], d.parts[b])
				}
			}
		}
	}
}

func TestPartialsOfSmallGroupsComeToTheValue(t *testing.T) { // 14.2, 14.3: nodes that differ modulo Q; one may be 0
	for _, g := range small() {
		d := few(t, g)
		want, q := value(g, d.x, d.secret), int(g.Q[0])
		for a := 1; a <= api.MaxNodes; a++ {
			for b := 1; b <= api.MaxNodes; b++ {
				if a%q != b%q {
					combined(t, "two nodes", g, d, want, d.at(a, b)...)
				}
			}
		}
	}
}

func TestTheFirstOnesAlone(t *testing.T) { // 14.2: what stands behind them changes nothing; a node may be the same there modulo Q
	g := params(t)[0]
	d := few(t, g)
	wrong := d.parts[4]
	wrong.U = nextMember(g, wrong.U)
	want := value(g, d.x, d.secret)
	combined(t, "a wrong one behind", g, d, want, d.parts[6], d.parts[1], wrong)
	if w, e := prf.Combine(g, d.deal, d.x, d.parts[6], wrong, d.parts[1]); w == want || e != api.OK {
		t.Errorf("a wrong one among the first comes to the same: %v, error %d", w, e)
	}
	g = small()[0] // Q is 3
	d = few(t, g)
	combined(t, "the same modulo Q behind", g, d, value(g, d.x, d.secret), d.at(1, 2, 4, 5, 7, 16)...)
}

func TestWhatAnyPartialsComeTo(t *testing.T) { // 14.2: of any members, by the library
	r := rand.New(rand.NewPCG(14, 8))
	for _, g := range params(t) {
		for size := 1; size <= most; size++ {
			d := random(t, r, g, size, []byte("x"))
			nodes := r.Perm(api.MaxNodes)[:size]
			var l []api.Partial
			for _, n := range nodes {
				u, _ := grp.Exp(g, g.H, drawn(r, 1)[0])
				l = append(l, api.Partial{Node: n + 1, U: u})
			}
			all := big.NewInt(1)
			for i, p := range l {
				factor := big.NewInt(1)
				for k, o := range l {
					if k != i {
						apart := new(big.Int).ModInverse(new(big.Int).Mod(big.NewInt(int64(p.Node-o.Node)), big1(g.Q)), big1(g.Q))
						factor.Mul(factor, apart.Mul(apart, big.NewInt(int64(-o.Node))))
					}
				}
				factor.Mod(factor, big1(g.Q))
				all.Mul(all, factor.Exp(big1(p.U), factor, big1(g.P)))
			}
			combined(t, "any members", g, d, nat(all.Mod(all, big1(g.P))), l...)
		}
	}
}

func TestProofsAreNotLookedAt(t *testing.T) { // 14.2: Combine
	for _, g := range params(t) {
		d := few(t, g)
		for _, p := range []api.Proof{{}, {C: g.Q, Y: g.Q, Z: g.Q}, {C: top, Y: top, Z: top}} {
			a, b := d.parts[0], d.parts[1]
			a.Proof, b.Proof = p, p
			combined(t, "proofs that are not right", g, d, value(g, d.x, d.secret), a, b)
		}
		e := d
		e.x = []byte("y") // what bytes they are of is not to be seen without the proofs
		combined(t, "other bytes", g, e, value(g, d.x, d.secret), d.parts[0], d.parts[1])
	}
}

func TestRight(t *testing.T) { // 14.2: in the order in which they came, each node's first one that is right
	r := rand.New(rand.NewPCG(14, 9))
	for _, g := range params(t) {
		for range 30 {
			d := random(t, r, g, 1+r.IntN(most), []byte("x"))
			var l, want []api.Partial
			for range r.IntN(api.MaxNodes + 1) {
				p := d.parts[r.IntN(6)]
				if way := r.IntN(14); way < 10 {
					p = turns(g, p)[way]
				}
				l = append(l, p)
				if isRight(g, d.deal, d.x, p) && !slices.ContainsFunc(want, func(o api.Partial) bool { return o.Node == p.Node }) {
					want = append(want, p)
				}
			}
			got, e := prf.Right(g, d.deal, d.x, l...)
			if !slices.Equal(got, want) || e != api.OK {
				t.Errorf("%d of %d, error %d, want %d", len(got), len(l), e, len(want))
			}
		}
	}
}

func TestRightPassesOverWhatIsWrong(t *testing.T) { // 14.2: whatever is wrong with it
	for _, g := range params(t) {
		d := few(t, g)
		p, q := d.parts[2], d.parts[0]
		again := p // another right proof of the same
		k := limb.Of(77)
		_, again.Proof, _ = proof.Prove(g, nat(member(g, d.x)), d.shares[2].S, d.shares[2].T, k, k)
		other := p
		other.U = limb.Of(0)
		far, nobody := p, p
		far.Node, nobody.Node = 17, 0
		for _, c := range []struct{ l, want []api.Partial }{
			{nil, nil}, {[]api.Partial{}, nil}, {[]api.Partial{p, q}, []api.Partial{p, q}}, {[]api.Partial{q, p}, []api.Partial{q, p}},
			{[]api.Partial{other, p, q}, []api.Partial{p, q}}, {[]api.Partial{far, nobody, p, {}, q, {Node: math.MinInt}}, []api.Partial{p, q}},
			{[]api.Partial{p, p, q, p}, []api.Partial{p, q}}, {[]api.Partial{again, p}, []api.Partial{again}}, {[]api.Partial{p, again}, []api.Partial{p}},
			{[]api.Partial{other, again, p}, []api.Partial{again}}, {slices.Repeat([]api.Partial{p}, api.MaxNodes), []api.Partial{p}},
			{d.parts, d.parts}, {slices.Repeat([]api.Partial{other}, api.MaxNodes), nil},
		} {
			if got, e := prf.Right(g, d.deal, d.x, c.l...); !slices.Equal(got, c.want) || e != api.OK {
				t.Errorf("%v: %v, error %d, want %v", c.l, got, e, c.want)
			}
		}
	}
}

func TestRefreshedPartialsComeToTheSame(t *testing.T) { // 14.5: epoch by epoch, and elder partials are right no more
	r := rand.New(rand.NewPCG(14, 10))
	for _, g := range params(t) {
		for size := 2; size <= most; size++ {
			d := random(t, r, g, size, []byte("x"))
			want := value(g, d.x, d.secret)
			for range 2 {
				s, u := drawn(r, size), drawn(r, size)
				s[0], u[0] = api.Nat{}, api.Nat{}
				zero := deals(t, g, d.x, s, u)
				next := dealt{x: d.x}
				next.deal, _ = joint.Refresh(g, d.deal, zero.deal)
				for i, x := range d.shares {
					share, _ := joint.Shares(g, x, zero.shares[i])
					next.shares = append(next.shares, share)
					p := evaluated(t, g, d.x, share)
					next.parts = append(next.parts, p)
					if prf.Check(g, next.deal, d.x, p) != api.OK || prf.Check(g, next.deal, d.x, d.parts[i]) != api.ErrProof {
						t.Errorf("node %d: the refreshed partial is not right, or the elder one is", i+1)
					}
				}
				combined(t, "refreshed", g, next, want, next.parts[16-size:]...)
				d = next
			}
		}
	}
}
