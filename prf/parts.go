package prf

import (
	"slices"

	"seneschal/api"
	"seneschal/grp"
	"seneschal/poly"
)

// What stands behind S, or T, in the bytes that a coin is the scalar of.
const (
	markOfS = 1
	markOfT = 2
)

const (
	partBits = 64
	natBytes = 32
)

// coin answers the scalar of u, one of the share's numbers, and its mark; g must be a group.
func coin(g api.Group, u, half api.Nat, mark byte) api.Nat {
	out, _ := grp.Scalar(g, append(concatenated(u, half), mark))
	return out
}

// factorsOf answers the factors at 0 of the nodes of l.
func factorsOf(g api.Group, l ...api.Partial) ([]api.Nat, error) {
	nodes := make([]api.Nat, len(l))
	for i, p := range l {
		nodes[i] = api.Nat{uint64(p.Node)}
	}
	out, e := poly.Factors(g.Q, api.Nat{}, nodes...)
	if e != api.OK { // it is as if one node had told twice
		return nil, fault{"nodes modulo Q: " + e.Error(), api.ErrPrf}
	}
	return out, nil
}

// product answers the product of the U of l, which are members, each to its factor.
func product(g api.Group, l []api.Partial, factors []api.Nat) api.Nat {
	raised := make([]api.Nat, len(l))
	for i, p := range l {
		raised[i], _ = grp.Exp(g, p.U, factors[i])
	}
	out, _ := grp.Mul(g, raised...)
	return out
}

// hasNode tells whether one of l is of the node.
func hasNode(node int, l ...api.Partial) bool {
	return slices.ContainsFunc(l, func(p api.Partial) bool { return p.Node == node })
}

// concatenated answers the bytes of all of l, one behind the other.
func concatenated(l ...api.Nat) []byte {
	out := make([]byte, 0, natBytes*len(l))
	for _, a := range l {
		for i := range a {
			part := a[len(a)-1-i]
			for shift := partBits - 8; shift >= 0; shift -= 8 {
				out = append(out, byte(part>>shift))
			}
		}
	}
	return out
}
