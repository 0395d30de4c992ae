package cert

import (
	"seneschal/api"
	"seneschal/limb"
	"seneschal/mod"
)

// Group tells whether g is right by the certificate l.
func Group(g api.Group, l ...api.Cert) api.Errno {
	certified, e := Check(l...)
	switch {
	case e != api.OK:
		return e
	case certified != g.P || l[len(l)-1].F != g.Q || !isTwiceAndOne(g.P, g.Q):
		return api.ErrCert
	case !generates(g.G, g) || !generates(g.H, g) || g.G == g.H:
		return api.ErrCert
	}
	return api.OK
}

// isTwiceAndOne tells whether p is 2 q and 1.
func isTwiceAndOne(p, q api.Nat) bool {
	// Twice q may have no room; half of p always has.
	half, rest, _ := limb.Divide(limb.Widen(p), limb.Of(2))
	return half == limb.Widen(q) && rest == limb.Of(1)
}

// generates tells whether a may be one of the two members that g names; g.P must be certified.
func generates(a api.Nat, g api.Group) bool {
	one := limb.Of(1)
	last, _ := limb.Sub(g.P, one)
	if a == (api.Nat{}) || a == one || limb.Compare(a, last) >= 0 {
		return false
	}
	power, _ := mod.Exp(a, g.Q, g.P)
	return power == one
}

// Chain answers the certificate of the group number k.
func Chain(k int) ([]api.Cert, api.Errno) {
	l := primes(k)
	if len(l) == 0 {
		return nil, api.ErrArg
	}
	var steps []api.Cert
	for i, n := range l[1:] {
		steps = append(steps, api.Cert{N: n, F: l[i], A: limb.Of(2)})
	}
	return steps, api.OK
}

// Numbers answers the P and the Q of the group number k.
func Numbers(k int) (api.Nat, api.Nat, api.Errno) {
	l := primes(k)
	if len(l) == 0 {
		return api.Nat{}, api.Nat{}, api.ErrArg
	}
	return l[len(l)-1], l[len(l)-2], api.OK
}

// primes answers the primes of the group number k, from the small one up to its Q and its P, each the F of the next one's step; none, if there is no such group.
func primes(k int) []api.Nat {
	switch k {
	case 0:
		return []api.Nat{limb.Of(131101), limb.Of(581039633), limb.Of(1162079267)}
	case 1:
		return parsed(
			"e7f43",
			"241cf830a3",
			"21a4dcb8cec2cf0ea83",
			"214ac418e8ede850287855e75ef55019a98e3",
			"20fa30054b94cd38b5619b557234f1a8a5787d70b890365f617875f74c4d3cdd",
			"41f4600a97299a716ac336aae469e3514af0fae171206cbec2f0ebee989a79bb")
	}
	return nil
}

// parsed answers the numbers of the texts.
func parsed(texts ...string) []api.Nat {
	var l []api.Nat
	for _, s := range texts {
		n, _ := limb.Parse(s)
		l = append(l, n)
	}
	return l
}
