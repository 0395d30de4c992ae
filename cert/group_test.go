package cert_test

import (
	"math"
	"math/big"
	"slices"
	"testing"

	"seneschal/api"
	"seneschal/cert"
	"seneschal/limb"
)

// hex answers the number whose digits to the base 16 s has.
func hex(s string) api.Nat {
	n, ok := new(big.Int).SetString(s, 16)
	if !ok {
		panic(s)
	}
	return nat(n)
}

func group(p, q, g, h uint64) api.Group {
	return api.Group{P: limb.Of(p), Q: limb.Of(q), G: limb.Of(g), H: limb.Of(h)}
}

func checkGroup(t *testing.T, what string, want api.Errno, g api.Group, l ...api.Cert) {
	t.Helper()
	if e := cert.Group(g, l...); e != want {
		t.Errorf("%s: error %d, want %d", what, e, want)
	}
}

// right answers the group number k with the members 4 and 9, and its certificate.
func right(t *testing.T, k int) (api.Group, []api.Cert) {
	t.Helper()
	p, q, e := cert.Numbers(k)
	if e != api.OK {
		t.Fatalf("Numbers(%d): error %d", k, e)
	}
	return api.Group{P: p, Q: q, G: limb.Of(4), H: limb.Of(9)}, chain(t, k)
}

// isMember is the chapter's word for G and H, reckoned by the library.
func isMember(a, p, q api.Nat) bool {
	n, m := big1(a), big1(p)
	last := new(big.Int).Sub(m, bigs[1])
	rest := new(big.Int).Mod(n, m)
	if n.Cmp(m) >= 0 || rest.Sign() == 0 || rest.Cmp(bigs[1]) == 0 || rest.Cmp(last) == 0 {
		return false
	}
	return new(big.Int).Exp(n, big1(q), m).Cmp(bigs[1]) == 0
}

// 3.1
func TestGroupOfAllSmallMembers(t *testing.T) {
	for _, c := range []api.Cert{step(7, 3, 2), step(11, 5, 2), step(23, 11, 2), step(47, 23, 2)} {
		p := c.N[0]
		taken := 0
		for g := range 2*p + 2 {
			for h := range 2*p + 2 {
				x := group(p, c.F[0], g, h)
				want := api.ErrCert
				if g != h && isMember(x.G, x.P, x.Q) && isMember(x.H, x.P, x.Q) {
					want, taken = api.OK, taken+1
				}
				checkGroup(t, "a small group", want, x, c)
			}
		}
		// All of them but 1 are members: Q - 1, each with all others.
		if q := int(c.F[0]); taken != (q-1)*(q-2) {
			t.Errorf("modulo %d: %d pairs", p, taken)
		}
	}
}

// 3.1
func TestGroupAmongManyMembers(t *testing.T) {
	for _, k := range []int{0, 1} {
		x, l := right(t, k)
		for n := range uint64(40) {
			for _, a := range []api.Nat{limb.Of(n), less(x.P, n), less(top, n)} {
				want := api.ErrCert
				if isMember(a, x.P, x.Q) {
					want = api.OK
				}
				g, h := x, x
				g.G, h.H = a, a
				checkGroup(t, "as G", unlessSame(want, g), g, l...)
				checkGroup(t, "as H", unlessSame(want, h), h, l...)
			}
		}
	}
}

// unlessSame answers e, but for a group whose members are the same.
func unlessSame(e api.Errno, g api.Group) api.Errno {
	if g.G == g.H {
		return api.ErrCert
	}
	return e
}

// 3.1
func TestGroupRefusesMembersThatAreNotBelow(t *testing.T) {
	x, l := right(t, 1)
	beyond, over := limb.Add(x.P, limb.Of(4))
	if over {
		t.Fatal("no room")
	}
	x.G = beyond // 4 modulo P
	checkGroup(t, "G", api.ErrCert, x, l...)
	x.G, x.H = limb.Of(9), beyond
	checkGroup(t, "H", api.ErrCert, x, l...)
	x.H = limb.Of(4)
	checkGroup(t, "below", api.OK, x, l...)
}

// 3.1
func TestGroupRefusesAnotherPOrQ(t *testing.T) {
	for _, k := range []int{0, 1} {
		x, l := right(t, k)
		checkGroup(t, "as it is", api.OK, x, l...)
		other, others := right(t, 1-k)
		checkGroup(t, "another one's certificate", api.ErrCert, x, others...)
		for what, turned := range map[string]api.Group{
			"another P":    {P: other.P, Q: x.Q, G: x.G, H: x.H},
			"another Q":    {P: x.P, Q: other.Q, G: x.G, H: x.H},
			"turned round": {P: x.Q, Q: x.P, G: x.G, H: x.H},
			"P less 2":     {P: less(x.P, 2), Q: x.Q, G: x.G, H: x.H},
			"Q less 2":     {P: x.P, Q: less(x.Q, 2), G: x.G, H: x.H},
			"Q of 2 Q":     {P: x.P, Q: less(x.P, 1), G: x.G, H: x.H},
			"noughts":      {},
		} {
			checkGroup(t, what, api.ErrCert, turned, l...)
		}
		x.Q[3] ^= 1 << 63 // twice that Q is the same modulo 2 to the 256
		checkGroup(t, "Q and 2 to the 255", api.ErrCert, x, l...)
	}
}

// 3.1: the certificate is right, G and H are of the order Q, but P is 4 Q and 1, or 6 Q and 1.
func TestGroupRefusesWhatIsNotTwiceAndOne(t *testing.T) {
	for _, x := range []struct {
		g api.Group
		c api.Cert
	}{
		{group(29, 7, 7, 16), step(29, 7, 2)},
		{group(43, 7, 4, 11), step(43, 7, 2)},
	} {
		if _, e := cert.Check(x.c); e != api.OK || !isMember(x.g.G, x.g.P, x.g.Q) || !isMember(x.g.H, x.g.P, x.g.Q) {
			t.Errorf("%v does not show what it should", x.g)
		}
		checkGroup(t, "not twice and 1", api.ErrCert, x.g, x.c)
	}
}

// 3.1: P is 2 Q and 1, and a certified prime, and G and H to the Q are 1, but Q is no prime: what the last step stands on is a divisor of it.
func TestGroupRefusesAQThatIsNotTheLastF(t *testing.T) {
	x := group(29, 14, 4, 9)
	if n, e := cert.Check(step(29, 7, 2)); e != api.OK || n != x.P || !isMember(x.G, x.P, x.Q) || !isMember(x.H, x.P, x.Q) {
		t.Errorf("%v does not show what it should", x)
	}
	checkGroup(t, "another F", api.ErrCert, x, step(29, 7, 2))
}

// 3.1: the group is right by another certificate; this one stands on its Q, too, but is of another prime.
func TestGroupRefusesTheCertificateOfAnotherPrime(t *testing.T) {
	x := group(23, 11, 4, 9)
	checkGroup(t, "of 23", api.OK, x, step(23, 11, 2))
	if n, e := cert.Check(step(67, 11, 2)); e != api.OK || n != limb.Of(67) {
		t.Errorf("67: %v, error %d", n, e)
	}
	checkGroup(t, "of 67", api.ErrCert, x, step(67, 11, 2))
}

// 3.1
func TestGroupRefusesWhatIsNoCertificate(t *testing.T) {
	for _, k := range []int{0, 1} {
		x, l := right(t, k)
		checkGroup(t, "none", api.ErrCert, x)
		checkGroup(t, "the last step alone", api.ErrCert, x, l[len(l)-1])
		checkGroup(t, "up to Q", api.ErrCert, x, l[:len(l)-1]...)
		for i := range l {
			turned := slices.Clone(l)
			turned[i].A = limb.Of(1)
			checkGroup(t, "a witness turned", api.ErrCert, x, turned...)
		}
	}
}

// 3.1: ErrLong comes ahead of ErrCert.
func TestGroupRefusesTooManySteps(t *testing.T) {
	x, l := right(t, 0)
	for len(l) < api.MaxItems {
		l = append(l, l[len(l)-1])
	}
	checkGroup(t, "MaxItems", api.ErrCert, x, l...)
	checkGroup(t, "MaxItems and 1", api.ErrLong, x, append(l, l[0])...)
	checkGroup(t, "MaxItems and 1, and a group of noughts", api.ErrLong, api.Group{}, append(l, l[0])...)
}

// 3.2
func TestChainsAreThoseOfTheChapter(t *testing.T) {
	two := limb.Of(2)
	for k, want := range [][]api.Cert{
		{step(581039633, 131101, 2), step(1162079267, 581039633, 2)},
		{
			{N: hex("241cf830a3"), F: hex("e7f43"), A: two},
			{N: hex("21a4dcb8cec2cf0ea83"), F: hex("241cf830a3"), A: two},
			{N: hex("214ac418e8ede850287855e75ef55019a98e3"), F: hex("21a4dcb8cec2cf0ea83"), A: two},
			{N: hex("20fa30054b94cd38b5619b557234f1a8a5787d70b890365f617875f74c4d3cdd"), F: hex("214ac418e8ede850287855e75ef55019a98e3"), A: two},
			{N: hex("41f4600a97299a716ac336aae469e3514af0fae171206cbec2f0ebee989a79bb"), F: hex("20fa30054b94cd38b5619b557234f1a8a5787d70b890365f617875f74c4d3cdd"), A: two},
		},
	} {
		if got, e := cert.Chain(k); e != api.OK || !slices.Equal(got, want) {
			t.Errorf("Chain(%d): %v, error %d", k, got, e)
		}
		last := want[len(want)-1]
		if p, q, e := cert.Numbers(k); e != api.OK || p != last.N || q != last.F {
			t.Errorf("Numbers(%d): %v, %v, error %d", k, p, q, e)
		}
	}
}

// 3.2
func TestThereAreNoOtherChains(t *testing.T) {
	for _, k := range []int{-1, 2, 3, 30, math.MinInt, math.MaxInt, 1 << 32, 1<<32 + 1} {
		if l, e := cert.Chain(k); e != api.ErrArg || len(l) != 0 {
			t.Errorf("Chain(%d): %v, error %d", k, l, e)
		}
		if p, q, e := cert.Numbers(k); e != api.ErrArg || p != (api.Nat{}) || q != (api.Nat{}) {
			t.Errorf("Numbers(%d): %v, %v, error %d", k, p, q, e)
		}
	}
}

// 3.2, rule 4
func TestAChainIsTheCallersOwn(t *testing.T) {
	for _, k := range []int{0, 1} {
		want := slices.Clone(chain(t, k))
		mine := chain(t, k)
		for i := range mine {
			mine[i] = api.Cert{}
		}
		if got := chain(t, k); !slices.Equal(got, want) {
			t.Errorf("chain %d became %v", k, got)
		}
	}
}

// 3.5
func TestBothChainsAreRight(t *testing.T) {
	for _, k := range []int{0, 1} {
		l := chain(t, k)
		p, q, _ := cert.Numbers(k)
		if n, e := cert.Check(l...); e != api.OK || n != p {
			t.Errorf("Check of chain %d: %v, error %d", k, n, e)
		}
		twice := new(big.Int).Lsh(big1(q), 1)
		if big1(p).Cmp(twice.Add(twice, bigs[1])) != 0 {
			t.Errorf("P of %d is not 2 Q and 1", k)
		}
		for i, c := range l {
			if !cert.Step(c) || !isRight(c) || !big1(c.N).ProbablyPrime(20) {
				t.Errorf("step %d of chain %d is not right", i, k)
			}
		}
		x, l := right(t, k)
		checkGroup(t, "with 4 and 9", api.OK, x, l...)
	}
}
