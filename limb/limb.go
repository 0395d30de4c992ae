// Package limb is layer 1: numbers of 256 bits. See shared/doc/01-limb.md.
package limb

import (
	"math/bits"

	"seneschal/api"
)

const (
	parts    = 4   // of a number
	partBits = 64  // of a part
	natBits  = 256 // of a number
)

// Of answers n as a number.
func Of(n uint64) api.Nat { return api.Nat{n} }

// Widen answers a as a wide number.
func Widen(a api.Nat) api.Wide {
	var w api.Wide
	copy(w[:], a[:])
	return w
}

// Compare answers -1, 0 or 1, as a is less than b, b itself, or greater.
func Compare(a, b api.Nat) int {
	if a == b {
		return 0
	}
	if _, borrow := subtract(a, b); borrow == 1 {
		return -1
	}
	return 1
}

// Add answers the sum modulo 2 to the 256, and whether it was that or more.
func Add(a, b api.Nat) (api.Nat, bool) {
	sum, carry := add(a, b)
	return sum, carry == 1
}

// Sub answers the difference modulo 2 to the 256, and whether b is greater.
func Sub(a, b api.Nat) (api.Nat, bool) {
	rest, borrow := subtract(a, b)
	return rest, borrow == 1
}

// Mul answers the product.
func Mul(a, b api.Nat) api.Wide {
	var product api.Wide
	// No later row reaches below its own place, so each row settles one part.
	var unsettled api.Nat
	for i := range parts {
		row, top := scale(a, b[i])
		sum, carry := add(unsettled, row)
		product[i] = sum[0]
		unsettled = api.Nat{sum[1], sum[2], sum[3], top + carry}
	}
	copy(product[parts:], unsettled[:])
	return product
}

// Length answers how many bits a has, up to the highest one that is 1.
func Length(a api.Nat) int {
	length := 0
	for i := range parts {
		if a[i] != 0 {
			length = i*partBits + bits.Len64(a[i])
		}
	}
	return length
}

// Bit answers whether the bit i of a is 1.
func Bit(a api.Nat, i int) bool {
	if i < 0 || i >= natBits {
		return false
	}
	return a[i/partBits]>>(i%partBits)&1 == 1
}

// add answers the sum modulo 2 to the 256, and the carry out of it.
func add(a, b api.Nat) (api.Nat, uint64) {
	carry := uint64(0)
	// Below b's lowest part there is nothing to add, and no carry to hand on.
	switch lowestPart(b) {
	case 0:
		a[0], carry = bits.Add64(a[0], b[0], carry)
		fallthrough
	case 1:
		a[1], carry = bits.Add64(a[1], b[1], carry)
		fallthrough
	case 2:
		a[2], carry = bits.Add64(a[2], b[2], carry)
		fallthrough
	case 3:
		a[3], carry = bits.Add64(a[3], b[3], carry)
	}
	return a, carry
}

// subtract answers the difference modulo 2 to the 256, and the borrow out of it.
func subtract(a, b api.Nat) (api.Nat, uint64) {
	borrow := uint64(0)
	switch lowestPart(b) {
	case 0:
		a[0], borrow = bits.Sub64(a[0], b[0], borrow)
		fallthrough
	case 1:
		a[1], borrow = bits.Sub64(a[1], b[1], borrow)
		fallthrough
	case 2:
		a[2], borrow = bits.Sub64(a[2], b[2], borrow)
		fallthrough
	case 3:
		a[3], borrow = bits.Sub64(a[3], b[3], borrow)
	}
	return a, borrow
}

// lowestPart answers the place of the lowest part of a that is not nought; of nought, the place behind the last one.
func lowestPart(a api.Nat) int {
	for i := range parts {
		if a[i] != 0 {
			return i
		}
	}
	return parts
}

// scale answers a times a part: the lowest four parts of it, and the one above them.
func scale(a api.Nat, part uint64) (api.Nat, uint64) {
	var high, low api.Nat
	for i := range parts {
		high[i], low[i] = bits.Mul64(a[i], part)
	}
	// The sum of the two fits into five parts, so the top one takes the carry.
	product, carry := add(low, api.Nat{0, high[0], high[1], high[2]})
	return product, high[3] + carry
}
