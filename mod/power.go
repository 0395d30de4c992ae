package mod

import (
	"seneschal/api"
	"seneschal/limb"
)

// Exp answers a to the e modulo m.
func Exp(a, e, m api.Nat) (api.Nat, api.Errno) {
	odd, two := m, limb.Of(1)
	var ofOdd, ofTwo api.Nat
	switch {
	case m == (api.Nat{}):
		return api.Nat{}, api.ErrMod
	case !limb.Bit(m, 0):
		// The quick way is that of odd moduli: an even one settles its power of two here, and goes on as its odd factor. That power divides 2 to the 256, so what is cut off does not count.
		odd, two = split(m)
		ofTwo = raise(a, e, limb.Of(1), lowProduct)
		fallthrough
	default:
		ofOdd = powerOfOdd(a, e, odd)
	}
	return join(ofOdd, odd, ofTwo, two), api.OK
}

// split answers the odd factor of m, and the power of two that is the other one; m must not be nought.
func split(m api.Nat) (odd, two api.Nat) {
	// A number and what it lacks to 2 to the 256 have one bit in common, the lowest that is 1.
	lack, _ := limb.Sub(api.Nat{}, m)
	for i := range parts {
		two[i] = m[i] & lack[i]
	}
	odd, _ = divide(m, two)
	return odd, two
}

// join answers the number below odd times two that is ofOdd modulo odd, and ofTwo modulo two (the Chinese remainder); ofOdd must be less than odd.
func join(ofOdd, odd, ofTwo, two api.Nat) api.Nat {
	// An odd modulus is spared what would come to the same.
	if two == limb.Of(1) {
		return ofOdd
	}
	// An odd number has an inverse modulo a power of two.
	inverse, _ := Inverse(odd, two)
	gap, _ := Sub(ofTwo, ofOdd, two)
	times, _ := Mul(gap, inverse, two)
	joined, _ := limb.Add(ofOdd, low(limb.Mul(times, odd)))
	return joined
}

// lowProduct answers a times b modulo 2 to the 256.
func lowProduct(a, b api.Nat) api.Nat { return low(limb.Mul(a, b)) }

// raise answers base to the e by squares, one being the power to the 0 of what times multiplies.
func raise(base, e, one api.Nat, times func(a, b api.Nat) api.Nat) api.Nat {
	power, length := one, limb.Length(e)
	for i := range length {
		power = times(power, power)
		if limb.Bit(e, length-1-i) {
			power = times(power, base)
		}
	}
	return power
}
