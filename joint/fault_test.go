package joint

import (
	"errors"
	"slices"
	"testing"

	"seneschal/api"
)

func TestGatheredErrorsAreFoundByWhatTheyAre(t *testing.T) { // rule 1: the one that is named first, in whatever order they are found
	order := []api.Errno{api.ErrGroup, api.ErrDeal, api.ErrArg, api.ErrShare}
	for i, first := range order {
		if got := told(fault{"outer", fault{"inner", first}}, order...); got != first {
			t.Errorf("%v, wrapped twice: %v", first, got)
		}
		for _, second := range order[i:] {
			a := errors.Join(fault{"a", first}, nil, fault{"b", second})
			b := fault{"both", errors.Join(fault{"b", second}, fault{"a", first})}
			if told(a, order...) != first || told(b, order...) != first {
				t.Errorf("%v and %v: %v, %v", first, second, told(a, order...), told(b, order...))
			}
			back := slices.Clone(order)
			slices.Reverse(back)
			if told(a, back...) != second {
				t.Errorf("%v and %v, named the other way: %v", first, second, told(a, back...))
			}
		}
	}
	if told(nil, order...) != api.OK {
		t.Error("where nothing is wrong an error is told")
	}
}

func TestFaultsSayWhatTheyAreAbout(t *testing.T) {
	g := api.Group{P: number(23), Q: number(11), G: number(4), H: number(9)}
	good := api.Deal{Dealer: 1, Commits: []api.Nat{number(4)}}
	for _, c := range []struct {
		err  error
		want string
	}{
		{group(api.Group{}), "group: error 90"},
		{dealings(api.Group{}), "group: error 90\ndealings: only 0: error 2"},
		{dealings(g, make([]api.Deal, 17)...), "dealings: as many as 17: error 2"},
		{dealings(g, good, api.Deal{}), "place 1: dealing: error 110"},
		{ofNought(good), "place 0: not of nought: error 110"},
		{ofOneNode(api.Share{Node: 1}, api.Share{Node: 2}), "share 1: of another node: error 2"},
		{ofOneNode(api.Share{Node: 17}, api.Share{Node: 17}), "share 0: node 17: error 2"},
		{recovery(g, 0, 6), "node 0: error 2\nbound 6: error 2"},
		{recovery(g, 1, 1), "shares: only 0: error 100"},
		{recovery(g, 1, 1, api.Share{}, api.Share{}), "share 0: node 0: error 2\nshare 1: the second of its node: error 100"},
		{among(3, 1), "as many nodes as 3: error 2"},
		{among(3, -1), "bound -1: error 2"},
		{lists(1, 2), "as many lists as 1: error 2"},
	} {
		if c.err == nil || c.err.Error() != c.want {
			t.Errorf("%v, want %s", c.err, c.want)
		}
	}
	if err := errors.Join(dealings(g, good), ofNought(), recovery(g, 16, 0, api.Share{Node: 1}), among(16, 5), lists(0, 0)); err != nil {
		t.Errorf("where nothing is wrong: %v", err)
	}
}
