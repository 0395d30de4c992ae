package poly

import (
	"errors"
	"testing"

	"seneschal/api"
	"seneschal/limb"
)

func TestErrorsAreFoundAsWhatTheyAre(t *testing.T) { // however deep they lie, and the first of several
	for _, e := range []api.Errno{api.ErrArg, api.ErrShare} {
		other := api.ErrArg + api.ErrShare - e
		for _, err := range []error{e, fault{"a", e}, fault{"b", fault{"a", e}}, errors.Join(nil, fault{"c", e}), errors.Join(fault{"c", e}, other)} {
			if told(err) != e {
				t.Errorf("%v: %v is told, want %v", err, told(err), e)
			}
		}
	}
	if told(nil) != api.OK {
		t.Errorf("where nothing is wrong %v is told", told(nil))
	}
}

func TestFaultsSayWhatTheyAreAbout(t *testing.T) {
	n := limb.Of
	_, far := baseOf(n(6), n(1), n(3))
	for _, c := range []struct {
		err  error
		want string
	}{
		{modulus(n(1)), "modulo 1: error 2"},
		{polynomial(n(2), nil), "coefficients: as many as 0: error 2"},
		{polynomial(n(0), nil), "modulo 0: error 2\ncoefficients: as many as 0: error 2"},
		{pointsOf(n(2), 257), "points: as many as 257: error 2"},
		{degreeOf(256), "degree 256: error 2"},
		{places(0, -7), "place 1: -7 is below 0: error 2"},
		{places(make([]int, 257)...), "places: as many as 257: error 2"},
		{apart(n(11), n(5), n(4), n(15)), "X 4: 1 and 2 are the same: error 100"},
		{far, "X 1: its distance from the others has no inverse: error 100"},
	} {
		if c.err == nil || c.err.Error() != c.want {
			t.Errorf("%v, want %s", c.err, c.want)
		}
	}
	if err := errors.Join(polynomial(n(2), make([]api.Nat, 256)), pointsOf(n(2), 1), degreeOf(0), places(), apart(n(2), n(1), n(2))); err != nil {
		t.Errorf("where nothing is wrong: %v", err)
	}
}
