package vss

import (
	"seneschal/api"
	"seneschal/grp"
	"seneschal/poly"
)

// polynomials tells what is wrong with g, or with the two polynomials of a dealing.
func polynomials(g api.Group, s, t []api.Nat) api.Errno {
	switch {
	case grp.Check(g) != api.OK:
		return api.ErrGroup
	case len(s) != len(t):
		fallthrough
	case !isSize(len(s)):
		return api.ErrDeal
	}
	return api.OK
}

// isNode tells whether n is the number of a node; a dealer is one, too.
func isNode(n int) bool { return n >= 1 && n <= api.MaxNodes }

// isSize tells whether a dealing may have n coefficients or commitments.
func isSize(n int) bool { return n >= 1 && n <= api.MaxTol+1 }

// areMembers tells whether all of l are members of g, which must be a group.
func areMembers(g api.Group, l ...api.Nat) bool {
	_, e := grp.Mul(g, l...)
	return e == api.OK
}

// haveNodes tells whether the node of each share may be.
func haveNodes(l ...api.Share) bool {
	for _, x := range l {
		if !isNode(x.Node) {
			return false
		}
	}
	return true
}

// points answers what the shares are as points of S and of T.
func points(l ...api.Share) (ofS, ofT []poly.Point) {
	for _, x := range l {
		at := number(x.Node)
		ofS = append(ofS, poly.Point{X: at, Y: x.S})
		ofT = append(ofT, poly.Point{X: at, Y: x.T})
	}
	return ofS, ofT
}

// number answers n, which is not below 0, as a number of 256 bits.
func number(n int) api.Nat { return api.Nat{uint64(n)} }
