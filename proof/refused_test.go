package proof_test

import (
	"math/rand/v2"
	"slices"
	"testing"

	"seneschal/api"
	"seneschal/grp"
	"seneschal/limb"
	"seneschal/proof"
)

// noGroups answers what grp.Check refuses; the G and the H of each are squares.
func noGroups(g api.Group) []api.Group {
	twoQ, oddQ, noQ := g, g, g
	twoQ.P = more(g.Q, g.Q)
	oddQ.Q = more(g.Q, limb.Of(1))
	noQ.Q = api.Nat{}
	return []api.Group{
		{}, twoQ, oddQ, noQ, modulo(limb.Of(5), 4, 1), modulo(limb.Of(1), 1, 1), modulo(limb.Of(22), 1, 1),
		{P: top, Q: top, G: limb.Of(4), H: limb.Of(9)}, {P: top, G: limb.Of(1), H: limb.Of(1)},
	}
}

// noMembers answers numbers of which none is a member.
func noMembers(t *testing.T, g api.Group) []api.Nat {
	t.Helper()
	l := []api.Nat{{}, less(g.P, 1), g.P, more(g.P, limb.Of(1)), more(g.P, limb.Of(9)), top, {1, 1, 1, 1 << 63}}
	for _, x := range l { // P - 1 is no square modulo a safe prime
		if grp.Is(g, x) {
			t.Fatalf("%s is a member", limb.Text(x))
		}
	}
	return l
}

// noBases answers groups whose G, or H, or both, are no members.
func noBases(t *testing.T, g api.Group) []api.Group {
	t.Helper()
	var l []api.Group
	for _, x := range noMembers(t, g) {
		ofG, ofH, both := g, g, g
		ofG.G, ofH.H = x, x
		both.G, both.H = x, x
		l = append(l, ofG, ofH, both)
	}
	return l
}

// isRefused sees to it that Check and Forge tell ErrGroup, and nothing else.
func isRefused(t *testing.T, what string, g api.Group, b, u, k api.Nat, p api.Proof) {
	t.Helper()
	if e := proof.Check(g, b, u, k, p); e != api.ErrGroup {
		t.Errorf("%s: Check: error %d", what, e)
	}
	if v, w, e := proof.Forge(g, b, u, k, p.C, p.Y, p.Z); v != (api.Nat{}) || w != (api.Nat{}) || e != api.ErrGroup {
		t.Errorf("%s: Forge: %v, %v, error %d", what, v, w, e)
	}
}

// isNotProved sees to it that Prove tells ErrGroup, and nothing else.
func isNotProved(t *testing.T, what string, g api.Group, b, s, u, x, y api.Nat) {
	t.Helper()
	if power, p, e := proof.Prove(g, b, s, u, x, y); power != (api.Nat{}) || p != (api.Proof{}) || e != api.ErrGroup {
		t.Errorf("%s: Prove: %v, %v, error %d", what, power, p, e)
	}
}

// proofs answers one that is right of the base H, with its power and commitment, and some that are wrong in any way.
func proofs(t *testing.T, g api.Group) (u, k api.Nat, l []api.Proof) {
	t.Helper()
	u, p := proved(t, g, g.H, limb.Of(5), limb.Of(6), limb.Of(7), limb.Of(8))
	wrong := p
	wrong.Y[0] ^= 1
	return u, commitment(g, limb.Of(5), limb.Of(6)), []api.Proof{p, wrong, {}, {C: g.Q, Y: g.Q, Z: g.Q}, {C: top, Y: top, Z: top}}
}

func TestNothingIsDoneInWhatIsNoGroup(t *testing.T) { // 13.1, 13.2
	for _, g := range params(t) {
		u, k, l := proofs(t, g)
		for _, no := range noGroups(g) {
			for _, p := range l {
				isRefused(t, "no group", no, g.H, u, k, p)
				isRefused(t, "no group, no members", no, api.Nat{}, top, g.P, p)
				isNotProved(t, "no group", no, g.H, p.C, p.Y, p.Z, p.C)
				isNotProved(t, "no group, no base", no, api.Nat{}, p.C, p.Y, p.Z, p.C)
			}
			for _, l := range [][]api.Nat{nil, {g.G}, {g.H, u, k, top}} {
				if c, e := proof.Challenge(no, l...); c != (api.Nat{}) || e != api.ErrGroup {
					t.Errorf("no group: Challenge: %v, error %d", c, e)
				}
			}
		}
	}
}

func TestBasesPowersAndCommitmentsAreMembers(t *testing.T) { // 13.1, 13.2: whatever the numbers are, and ahead of ErrProof
	for _, g := range append(params(t), small()[:4]...) {
		u, k, l := proofs(t, g)
		for _, x := range noMembers(t, g) {
			for _, p := range l {
				isRefused(t, "the base", g, x, u, k, p)
				isRefused(t, "the power", g, g.H, x, k, p)
				isRefused(t, "the commitment", g, g.H, u, x, p)
				isRefused(t, "all three", g, x, x, x, p)
				isNotProved(t, "the base", g, x, p.C, p.Y, p.Z, p.C)
			}
			isNotProved(t, "the base to the 0", g, x, api.Nat{}, api.Nat{}, api.Nat{}, api.Nat{})
			isNotProved(t, "the base to the Q", g, x, g.Q, g.Q, g.Q, g.Q)
			isNotProved(t, "the base to the 2", g, x, limb.Of(2), limb.Of(2), limb.Of(2), limb.Of(2))
		}
	}
}

func TestGAndHAreMembers(t *testing.T) { // 13.1, 13.2: whatever the numbers are, and ahead of ErrProof
	for _, g := range append(params(t), small()[:4]...) {
		u, k, l := proofs(t, g)
		for _, no := range noBases(t, g) {
			for _, p := range l {
				isRefused(t, "G or H", no, g.H, u, k, p)
				isNotProved(t, "G or H", no, g.H, p.C, p.Y, p.Z, p.C)
			}
			isNotProved(t, "G or H to the 0", no, g.H, api.Nat{}, api.Nat{}, api.Nat{}, api.Nat{})
			isNotProved(t, "G or H to the Q", no, g.H, g.Q, g.Q, g.Q, g.Q)
			if c, e := proof.Challenge(no, u, k); c != challenge(no, u, k) || e != api.OK { // it asks for P and Q alone
				t.Errorf("Challenge: %v, error %d", c, e)
			}
		}
	}
}

func TestWrongProofsOfMembers(t *testing.T) { // 13.2: of these ErrProof is told, and nothing else
	for _, g := range params(t) {
		u, k, l := proofs(t, g)
		for i, p := range l {
			want := api.ErrProof
			if i == 0 {
				want = api.OK
			}
			if e := proof.Check(g, g.H, u, k, p); e != want {
				t.Errorf("%v: error %d, want %d", p, e, want)
			}
		}
	}
}

func TestListsStayAsTheyAre(t *testing.T) { // rule 4
	g := params(t)[1]
	l := drawn(rand.New(rand.NewPCG(13, 12)), 10)
	kept := slices.Clone(l)
	first, _ := proof.Challenge(g, l[:3]...)
	again, e := proof.Challenge(g, l[:3]...)
	if !slices.Equal(l, kept) || again != first || e != api.OK {
		t.Errorf("what was handed in, or what lies behind it, is changed: %v, %v, error %d", first, again, e)
	}
}
