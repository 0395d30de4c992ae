package poly

import (
	"errors"
	"strconv"

	"seneschal/api"
	"seneschal/limb"
)

const leastQ = 2

// fault is an error with what it is about; what it is lies within.
type fault struct {
	about string
	kind  error
}

// Error is its text.
func (f fault) Error() string { return f.about + ": " + f.kind.Error() }

// Unwrap answers the error within.
func (f fault) Unwrap() error { return f.kind }

// told answers which error a call tells: the number that err is, or that it wraps.
func told(err error) api.Errno {
	var e api.Errno
	if errors.As(err, &e) {
		return e
	}
	return api.OK
}

// polynomial tells what is wrong with q and the coefficients.
func polynomial(q api.Nat, l []api.Nat) error {
	return errors.Join(modulus(q), counted("coefficients", len(l)))
}

// pointsOf tells what is wrong with q and as many points as n.
func pointsOf(q api.Nat, n int) error {
	return errors.Join(modulus(q), counted("points", n))
}

// modulus tells what is wrong with q.
func modulus(q api.Nat) error {
	if limb.Compare(q, limb.Of(leastQ)) < 0 {
		return fault{"modulo " + limb.Text(q), api.ErrArg}
	}
	return nil
}

// counted tells what is wrong if there are none of something, or too many.
func counted(what string, n int) error {
	if n < 1 || n > api.MaxItems {
		return fault{what + ": as many as " + strconv.Itoa(n), api.ErrArg}
	}
	return nil
}

// degreeOf tells what is wrong with a degree: it is of one coefficient less than a polynomial has.
func degreeOf(n int) error {
	if n < 0 || n >= api.MaxItems {
		return fault{"degree " + strconv.Itoa(n), api.ErrArg}
	}
	return nil
}

// places tells what is wrong with places that points are asked at; there may be none.
func places(xs ...int) error {
	if len(xs) > api.MaxItems {
		return counted("places", len(xs))
	}
	for i, x := range xs {
		if x < 0 {
			return fault{"place " + strconv.Itoa(i), fault{strconv.Itoa(x) + " is below 0", api.ErrArg}}
		}
	}
	return nil
}
