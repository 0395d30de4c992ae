package seal

import (
	"errors"
	"testing"

	"seneschal/api"
)

func TestErrorsAreToldByWhatTheyAre(t *testing.T) { // rule 1: the one that the chapter names first, in whatever order they are found
	order := []api.Errno{api.ErrArg, api.ErrShort, api.ErrLong, api.ErrSeal}
	for i, first := range order {
		if got := told(fault{"outer", fault{"inner", first}}); got != first {
			t.Errorf("%v, wrapped twice: %v", first, got)
		}
		for _, second := range order[i:] {
			a := gathered("both", fault{"a", first}, nil, fault{"b", second})
			b := gathered("both", fault{"b", second}, fault{"a", first})
			if told(a) != first || told(b) != first {
				t.Errorf("%v and %v: %v, %v", first, second, told(a), told(b))
			}
		}
	}
	if told(nil) != api.OK || gathered("nothing", nil, nil) != nil || gathered("nothing") != nil {
		t.Error("where nothing is wrong an error is told")
	}
}

func TestFaultsSayWhatTheyAreAbout(t *testing.T) {
	err := gathered("keys", exactly("key", make([]byte, 15), keySize), mayBe(256))
	if want := "keys: key of 15 bytes: error 2\nuse 256: error 2"; err.Error() != want {
		t.Errorf("%q, want %q", err, want)
	}
	if !errors.Is(err, api.ErrArg) || errors.Is(err, api.ErrLong) {
		t.Error("what is wrapped is not found")
	}
}
