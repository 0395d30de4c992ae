package seal

import (
	"errors"
	"strconv"

	"seneschal/api"
)

// fault is an error with what it is about; what kind it is lies within.
type fault struct {
	about string
	kind  error
}

// Error is its text.
func (f fault) Error() string { return f.about + ": " + f.kind.Error() }

// Unwrap answers the error within.
func (f fault) Unwrap() error { return f.kind }

// gathered answers all that is wrong with what is to be done, as one error, or nil.
func gathered(what string, l ...error) error {
	if err := errors.Join(l...); err != nil {
		return fault{what, err}
	}
	return nil
}

// told answers which error a call tells: of several that are wrapped the one that the chapter names first.
func told(err error) api.Errno {
	for _, e := range [...]api.Errno{api.ErrArg, api.ErrShort, api.ErrLong, api.ErrSeal} {
		if errors.Is(err, e) {
			return e
		}
	}
	return api.OK
}

// exactly tells what is wrong with b if it has not n bytes.
func exactly(what string, b []byte, n int) error {
	if len(b) != n {
		return fault{what + " of " + strconv.Itoa(len(b)) + " bytes", api.ErrArg}
	}
	return nil
}

// atLeast tells what is wrong with b if it has fewer than n bytes.
func atLeast(what string, b []byte, n int) error {
	if len(b) < n {
		return fault{what + ": only " + strconv.Itoa(len(b)), api.ErrShort}
	}
	return nil
}

// atMost tells what is wrong with b if it has more than n bytes.
func atMost(what string, b []byte, n int) error {
	if len(b) > n {
		return fault{what + ": as many as " + strconv.Itoa(len(b)), api.ErrLong}
	}
	return nil
}

// mayBe tells what is wrong with a use.
func mayBe(use int) error {
	if use < 0 || use > mostUse {
		return fault{"use " + strconv.Itoa(use), api.ErrArg}
	}
	return nil
}
