package proof

import (
	"math/bits"

	"seneschal/api"
)

// This layer stands on no layer that reckons modulo Q, so it does so itself. Q is that of a group: from 3 on, and below 2 to the 255, so that two scalars' sum has room in a number.

const (
	partBits = 64
	natBytes = 32
)

// line answers a and c times s, modulo q; c must be below q.
func line(q, a, c, s api.Nat) api.Nat { return sum(q, reduced(q, a), product(q, s, c)) }

// negative answers the scalar that comes with a to 0 modulo q, or q itself.
func negative(q, a api.Nat) api.Nat {
	rest, _ := less(q, reduced(q, a))
	return rest
}

// reduced answers a modulo q.
func reduced(q, a api.Nat) api.Nat { return product(q, a, api.Nat{1}) }

// product answers a times b modulo q; b must be below q.
func product(q, a, b api.Nat) api.Nat {
	var out api.Nat
	for i := range a {
		part := a[len(a)-1-i]
		for bit := range partBits {
			out = sum(q, out, out)
			if part>>(partBits-1-bit)&1 == 1 {
				out = sum(q, out, b)
			}
		}
	}
	return out
}

// sum answers a and b modulo q; both must be below q.
func sum(q, a, b api.Nat) api.Nat {
	carry := uint64(0)
	for i := range a {
		a[i], carry = bits.Add64(a[i], b[i], carry)
	}
	if rest, under := less(a, q); !under {
		return rest
	}
	return a
}

// less answers a without b, and whether b is greater.
func less(a, b api.Nat) (api.Nat, bool) {
	borrow := uint64(0)
	for i := range a {
		a[i], borrow = bits.Sub64(a[i], b[i], borrow)
	}
	return a, borrow == 1
}

// areBelow tells whether all of l are less than q.
func areBelow(q api.Nat, l ...api.Nat) bool {
	for _, a := range l {
		if _, under := less(a, q); !under {
			return false
		}
	}
	return true
}

// concatenated answers the bytes of all of l, one behind the other.
func concatenated(l ...api.Nat) []byte {
	out := make([]byte, 0, natBytes*len(l))
	for _, a := range l {
		for i := range a {
			part := a[len(a)-1-i]
			for shift := partBits - 8; shift >= 0; shift -= 8 {
				out = append(out, byte(part>>shift))
			}
		}
	}
	return out
}
