package prf

import (
	"errors"
	"testing"

	"seneschal/api"
)

func TestErrorsAreFoundAsWhatTheyAre(t *testing.T) { // however deep they lie, and the first of several
	all := []api.Errno{api.ErrGroup, api.ErrDeal, api.ErrArg, api.ErrPrf, api.ErrProof}
	for _, e := range all {
		for _, other := range all {
			for _, err := range []error{e, fault{"a", e}, fault{"b", fault{"a", e}}, errors.Join(nil, fault{"c", e}), errors.Join(fault{"c", e}, other)} {
				if told(err) != e {
					t.Errorf("%v: %v is told, want %v", err, told(err), e)
				}
			}
		}
	}
	if told(nil) != api.OK {
		t.Errorf("where nothing is wrong %v is told", told(nil))
	}
}

func TestFaultsSayWhatTheyAreAbout(t *testing.T) {
	of := func(n uint64) api.Nat { return api.Nat{n} }
	g := api.Group{P: of(23), Q: of(11), G: of(4), H: of(9)}
	good := api.Deal{Dealer: 1, Commits: []api.Nat{of(4)}}
	base := g
	base.H = of(5)
	_, far := factorsOf(g, api.Partial{Node: 1}, api.Partial{Node: 12})
	for _, c := range []struct {
		err  error
		want string
	}{
		{group(api.Group{}), "group: error 90"},
		{bases(base), "group, G or H: error 90"},
		{dealing(g, api.Deal{}), "dealing: error 110"},
		{members(g, api.Partial{Node: 3, U: of(5)}), "partial of node 3: error 90"},
		{several(g, good, nil), "partials: only 0: error 140"},
		{several(g, good, nil, api.Partial{Node: 17}), "node 17: error 2"},
		{several(g, good, nil, api.Partial{Node: 5}, api.Partial{Node: 5}), "partial of node 5: there is one already: error 140"},
		{atMost(17), "partials: as many as 17: error 140"},
		{mayBeText(make([]byte, 4097)), "bytes: as many as 4097: error 2"},
		{far, "nodes modulo Q: error 100: error 140"},
		{right(g, good, of(4), api.Partial{Node: 17, U: of(4)}), "partial of node 17: error 2: error 130"},
		{right(g, good, of(4), api.Partial{Node: 2, U: of(5)}), "partial of node 2: error 90: error 130"},
	} {
		if c.err == nil || c.err.Error() != c.want {
			t.Errorf("%v, want %s", c.err, c.want)
		}
	}
	if err := errors.Join(group(g), bases(g), dealing(g, good), several(g, good, make([]byte, 4096), api.Partial{Node: 16}), atMost(16)); err != nil {
		t.Errorf("where nothing is wrong: %v", err)
	}
}
