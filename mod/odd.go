package mod

import (
	"math/bits"

	"seneschal/api"
	"seneschal/limb"
)

// powerOfOdd answers a to the e modulo m, an odd number.
func powerOfOdd(a, e, m api.Nat) api.Nat {
	field := oddModulus{m: m, clear: minusInverse(m[0])}
	// Each product loses a factor of 2 to the 256, so what is multiplied has one too much from the start, and the power loses it at the end.
	one, _ := Reduce(lifted(limb.Of(1)), m)
	base, _ := Reduce(lifted(a), m)
	power := raise(base, e, one, field.product)
	return field.product(power, limb.Of(1))
}

// lifted answers a times 2 to the 256.
func lifted(a api.Nat) api.Wide {
	var w api.Wide
	copy(w[parts:], a[:])
	return w
}

// oddModulus multiplies without dividing (after Montgomery): where a remainder takes multiples of m off the top, here they are added until the low parts are noughts, and those are cut off.
type oddModulus struct {
	m     api.Nat
	clear uint64 // how many m clear a lowest part of 1
}

// product answers a times b by 2 to the 256, modulo m; a must be less than m.
func (o *oddModulus) product(a, b api.Nat) api.Nat {
	// Ahead of each round the sum is less than twice m.
	var sum [parts + 1]uint64
	for i := range parts {
		over := addMultiple(&sum, &a, b[i])
		over += addMultiple(&sum, &o.m, sum[0]*o.clear)
		sum[0], sum[1], sum[2], sum[3], sum[4] = sum[1], sum[2], sum[3], sum[4], over
	}
	all := api.Nat(sum[:parts])
	less, below := limb.Sub(all, o.m)
	if below && sum[parts] == 0 {
		return all
	}
	return less
}

// addMultiple adds a times n to the sum, and answers the carry out of it.
func addMultiple(sum *[parts + 1]uint64, a *api.Nat, n uint64) uint64 {
	over, carry := uint64(0), uint64(0)
	for i := range parts {
		high, low := bits.Mul64(a[i], n)
		// A product of two parts leaves room for two more parts to be added.
		low, carry = bits.Add64(low, over, 0)
		high += carry
		sum[i], carry = bits.Add64(sum[i], low, 0)
		over = high + carry
	}
	sum[parts], carry = bits.Add64(sum[parts], over, 0)
	return carry
}

// minusInverse answers the number that times n is -1 modulo 2 to the 64; n must be odd.
func minusInverse(n uint64) uint64 {
	// An odd number is its own inverse modulo 8; each step doubles the bits that are right: 3, 6, 12, 24, 48, 96.
	inverse := n
	for range 5 {
		inverse *= 2 - n*inverse
	}
	return -inverse
}
