package grp

import (
	"errors"
	"strconv"

	"seneschal/api"
	"seneschal/limb"
	"seneschal/mod"
)

// fault is an error with what it is about; what kind it is lies within.
type fault struct {
	about string
	kind  error
}

// Error is its text.
func (f fault) Error() string { return f.about + ": " + f.kind.Error() }

// Unwrap answers the error within.
func (f fault) Unwrap() error { return f.kind }

// told answers which error a call tells: the one that err is, or that it wraps.
func told(err error) api.Errno {
	for _, e := range [...]api.Errno{api.ErrArg, api.ErrGroup} {
		if errors.Is(err, e) {
			return e
		}
	}
	return api.OK
}

// group tells what is wrong with the P and the Q of g.
func group(g api.Group) error {
	// Twice Q may have no room; half of P always has.
	half, rest, _ := limb.Divide(limb.Widen(g.P), limb.Of(2))
	switch {
	case limb.Compare(g.P, limb.Of(leastP)) < 0:
		return fault{"P is only " + limb.Text(g.P), api.ErrGroup}
	case rest == api.Nat{}:
		return fault{"P is even", api.ErrGroup}
	case half != limb.Widen(g.Q):
		return fault{"P is not 2 Q and 1", api.ErrGroup}
	}
	return nil
}

// members tells what is wrong with g, or with the first number of l that is no member.
func members(g api.Group, l ...api.Nat) error {
	if err := group(g); err != nil {
		return fault{"group", err}
	}
	for i, x := range l {
		if err := member(g, x); err != nil {
			return fault{"number " + strconv.Itoa(i), err}
		}
	}
	return nil
}

// member tells what is wrong with x if it is no member; the P of g is not nought.
func member(g api.Group, x api.Nat) error {
	if x == (api.Nat{}) || limb.Compare(x, g.P) >= 0 {
		return fault{limb.Text(x) + " is not from 1 to P - 1", api.ErrGroup}
	}
	if last, _ := mod.Exp(x, g.Q, g.P); last != limb.Of(1) {
		return fault{limb.Text(x) + " to the Q is not 1", api.ErrGroup}
	}
	return nil
}
