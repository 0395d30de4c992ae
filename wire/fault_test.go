package wire

import (
	"errors"
	"testing"

	"seneschal/api"
)

func TestErrorsAreFoundByWhatTheyAre(t *testing.T) { // however deep they lie
	for _, e := range []api.Errno{api.ErrWire, api.ErrLong, api.ErrNone} {
		for _, err := range []error{e, fault{"a", e}, at("b", 1, fault{"a", e}), errors.Join(nil, at("c", 2, e))} {
			if told(err) != e {
				t.Errorf("%v: %v is told, want %v", err, told(err), e)
			}
		}
	}
	if told(nil) != api.OK {
		t.Errorf("where nothing is wrong %v is told", told(nil))
	}
}

func TestFaultsSayWhereTheyCameUp(t *testing.T) {
	_, err := putting([]api.Field{{Tag: 1}, {Tag: 256}})
	if want := "field 1: tag 256 behind 1: error 80"; err == nil || err.Error() != want {
		t.Errorf("%v, want %s", err, want)
	}
	_, err = readingList([]byte{0, 0, 0, 5, 1})
	if want := "member 1: 1 bytes of 5: error 80"; err == nil || err.Error() != want {
		t.Errorf("%v, want %s", err, want)
	}
}
