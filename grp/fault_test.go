package grp

import (
	"errors"
	"testing"

	"seneschal/api"
	"seneschal/limb"
)

func TestErrorsAreFoundAgain(t *testing.T) { // however deep they lie
	for _, e := range []api.Errno{api.ErrArg, api.ErrGroup} {
		for _, err := range []error{e, fault{"a", e}, fault{"b", fault{"a", e}}, errors.Join(nil, fault{"c", e})} {
			if told(err) != e {
				t.Errorf("%v: %v is told, want %v", err, told(err), e)
			}
		}
	}
	if told(nil) != api.OK {
		t.Errorf("where nothing is wrong %v is told", told(nil))
	}
}

func TestFaultsSayWhatTheyAreAbout(t *testing.T) {
	g := api.Group{P: limb.Of(23), Q: limb.Of(11)}
	for _, c := range []struct {
		err  error
		want string
	}{
		{members(api.Group{P: limb.Of(5), Q: limb.Of(2)}, limb.Of(4)), "group: P is only 5: error 90"},
		{members(api.Group{P: limb.Of(22), Q: limb.Of(11)}), "group: P is even: error 90"},
		{members(api.Group{P: limb.Of(23), Q: limb.Of(10)}), "group: P is not 2 Q and 1: error 90"},
		{members(g, limb.Of(4), limb.Of(23)), "number 1: 17 is not from 1 to P - 1: error 90"},
		{members(g, limb.Of(5), limb.Of(23)), "number 0: 5 to the Q is not 1: error 90"},
	} {
		if c.err == nil || c.err.Error() != c.want {
			t.Errorf("%v, want %s", c.err, c.want)
		}
	}
	if err := members(g, limb.Of(4), limb.Of(9)); err != nil {
		t.Errorf("of members %v is told", err)
	}
}

func TestOneIsTheMemberWhereThereIsNoOther(t *testing.T) { // modulo 3, which no caller may ask for, all squares are 0 or 1
	for n := range byte(20) {
		if x := memberOf(limb.Of(3), []byte{n}); x != limb.Of(1) {
			t.Errorf("the member of %d: %s", n, limb.Text(x))
		}
	}
}
