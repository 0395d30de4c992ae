package limb

import (
	"math/bits"

	"seneschal/api"
)

const (
	wideParts   = 8                 // of a wide number
	liftedParts = wideParts + parts // of a wide number times less than 2 to the 256
)

// Divide answers the quotient, rounded down, and the remainder.
func Divide(w api.Wide, m api.Nat) (api.Wide, api.Nat, api.Errno) {
	if m == (api.Nat{}) {
		return api.Wide{}, api.Nat{}, api.ErrZero
	}
	// Both are lifted until the divisor's top bit is 1: only then is a part of the quotient guessed well from the top parts. The quotient stays the same, the remainder is lifted too.
	up := natBits - Length(m)
	dividend, lifted := lift(w, up), lift(Widen(m), up)
	var divisor, rest api.Nat
	copy(divisor[:], lifted[:parts])
	// The top four parts are below 2 to the up, so below the divisor.
	copy(rest[:], dividend[wideParts:])
	var quotient api.Wide
	for i := range wideParts {
		place := wideParts - 1 - i
		quotient[place], rest = divideStep(rest, dividend[place], divisor)
	}
	return quotient, lower(rest, up), api.OK
}

// divideStep divides the number made of rest and, below it, the next part, and answers the quotient and the remainder. The divisor's top bit must be 1, and rest less than the divisor: then the quotient is one part.
func divideStep(rest api.Nat, next uint64, divisor api.Nat) (uint64, api.Nat) {
	left, top := api.Nat{next, rest[0], rest[1], rest[2]}, rest[3]
	quotient := guess(rest, divisor)
	// A guess is never too small; that of a short dividend is mostly nought.
	if quotient == 0 {
		return 0, left
	}
	row, rowTop := scale(divisor, quotient)
	left, borrow := subtract(left, row)
	top -= rowTop + borrow
	// A remainder has no top part: while there is one, too much was taken. The guess is at most 2 too great, so this ends.
	for top != 0 {
		carry := uint64(0)
		left, carry = add(left, divisor)
		top += carry
		quotient--
	}
	return quotient, left
}

// guess answers the quotient of the top parts, which is the step's quotient, or one or two more.
func guess(rest, divisor api.Nat) uint64 {
	if rest[3] >= divisor[3] {
		return 1<<partBits - 1
	}
	quotient, _ := bits.Div64(rest[3], rest[2], divisor[3])
	return quotient
}

// lift answers w times 2 to the n, n being less than 256.
func lift(w api.Wide, n int) [liftedParts]uint64 {
	var lifted [liftedParts]uint64
	whole, rest := n/partBits, n%partBits
	for i := range wideParts {
		lifted[i+whole] |= w[i] << rest
		lifted[i+whole+1] |= w[i] >> (partBits - rest)
	}
	return lifted
}

// lower answers a by 2 to the n, rounded down, n being less than 256.
func lower(a api.Nat, n int) api.Nat {
	var lowered api.Nat
	whole, rest := n/partBits, n%partBits
	for i := range parts - whole {
		lowered[i] = a[i+whole] >> rest
		if i+whole+1 < parts {
			lowered[i] |= a[i+whole+1] << (partBits - rest)
		}
	}
	return lowered
}
