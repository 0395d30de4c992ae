package grp

import (
	"slices"

	"seneschal/api"
	"seneschal/limb"
	"seneschal/mac"
	"seneschal/mod"
)

const (
	counters     = 64 // that are tried for a member
	counterBytes = 8
	natBytes     = 32 // of a number
	natParts     = 4
)

// Member answers what the bytes are as a member.
func Member(g api.Group, b []byte) (api.Nat, api.Errno) {
	if err := group(g); err != nil {
		return api.Nat{}, told(err)
	}
	return memberOf(g.P, b), api.OK
}

// Scalar answers what the bytes are as a scalar.
func Scalar(g api.Group, b []byte) (api.Nat, api.Errno) {
	if err := group(g); err != nil {
		return api.Nat{}, told(err)
	}
	return digest("scalar", b, g.Q), api.OK
}

// memberOf answers what the bytes are as a member modulo p, which is not nought.
func memberOf(p api.Nat, b []byte) api.Nat {
	one := limb.Of(1)
	for n := range uint64(counters) {
		root := digest("member", counted(n, b), p)
		square, _ := mod.Mul(root, root, p)
		if limb.Compare(square, one) > 0 {
			return square
		}
	}
	return one
}

// counted answers the bytes with the counter n ahead.
func counted(n uint64, b []byte) []byte {
	whole := limb.Bytes(limb.Of(n))
	return slices.Concat(whole[natBytes-counterBytes:], b)
}

// digest answers that of the text and the bytes modulo m, which is not nought.
func digest(text string, b []byte, m api.Nat) api.Nat {
	// Twice as many bytes as a number has: what comes modulo m is spread evenly.
	derived, _ := mac.Derive(b, nil, text, 2*natBytes)
	high, _ := limb.Read(derived[:natBytes])
	low, _ := limb.Read(derived[natBytes:])
	wide := limb.Widen(low)
	copy(wide[natParts:], high[:])
	rest, _ := mod.Reduce(wide, m)
	return rest
}
