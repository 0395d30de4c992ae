package mod

import (
	"seneschal/api"
	"seneschal/limb"
)

// Gcd answers the greatest common divisor.
func Gcd(a, b api.Nat) api.Nat {
	for b != (api.Nat{}) {
		_, rest := divide(a, b)
		a, b = b, rest
	}
	return a
}

// Inverse answers the number that times a is 1 modulo m.
func Inverse(a, m api.Nat) (api.Nat, api.Errno) {
	a, e := Reduce(limb.Widen(a), m)
	if e != api.OK {
		return api.Nat{}, e
	}
	divisor, factor, below := euclid(m, a)
	switch {
	case divisor != limb.Of(1):
		return api.Nat{}, api.ErrMod
	case below:
		return Sub(api.Nat{}, factor, m)
	}
	return factor, api.OK
}

// euclid answers the greatest common divisor of m and a, and the factor by which a comes to that divisor modulo m: its size, and whether it is below nought. a must be less than m.
func euclid(m, a api.Nat) (divisor, factor api.Nat, below bool) {
	divisor, rest := m, a
	factor, next := api.Nat{}, limb.Of(1)
	below = true
	for rest != (api.Nat{}) {
		quotient, left := divide(divisor, rest)
		divisor, rest = rest, left
		// Signs take turns, so what is taken off is added without them; no factor becomes greater than m.
		sum, _ := limb.Add(factor, low(limb.Mul(quotient, next)))
		factor, next = next, sum
		below = !below
	}
	return divisor, factor, below
}

// divide answers the quotient, rounded down, and the remainder; b must not be nought.
func divide(a, b api.Nat) (quotient, rest api.Nat) {
	wide, rest, _ := limb.Divide(limb.Widen(a), b)
	return low(wide), rest
}

// low answers w modulo 2 to the 256.
func low(w api.Wide) api.Nat { return api.Nat(w[:parts]) }
