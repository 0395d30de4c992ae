package wire

import (
	"errors"
	"strconv"

	"seneschal/api"
)

// fault is an error with what it is about; what it is lies within.
type fault struct {
	about string
	kind  error
}

// Error is its text.
func (f fault) Error() string { return f.about + ": " + f.kind.Error() }

// Unwrap answers the error within.
func (f fault) Unwrap() error { return f.kind }

// told answers which error a call tells: the number that err is, or that it wraps.
func told(err error) api.Errno {
	var e api.Errno
	if errors.As(err, &e) {
		return e
	}
	return api.OK
}

// at answers err with the place that it came up at.
func at(what string, place int, err error) error {
	return fault{what + " " + strconv.Itoa(place), err}
}

// atMost tells what is wrong if n is greater than most.
func atMost(what string, n, most int) error {
	if n > most {
		return fault{what + ": as many as " + strconv.Itoa(n), api.ErrLong}
	}
	return nil
}

// above tells what is wrong with a tag that is none, or is not above the last one (0: there was none).
func above(last, tag int) error {
	if tag <= last || tag > mostTag {
		return fault{"tag " + strconv.Itoa(tag) + " behind " + strconv.Itoa(last), api.ErrWire}
	}
	return nil
}
