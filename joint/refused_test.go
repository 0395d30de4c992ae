package joint_test

import (
	"math"
	"slices"
	"testing"

	"seneschal/api"
	"seneschal/grp"
	"seneschal/joint"
	"seneschal/limb"
)

// noGroups answers what grp.Check refuses; the G and the H of each are squares.
func noGroups(g api.Group) []api.Group {
	twoQ, oddQ := g, g
	twoQ.P = more(g.Q, g.Q)
	oddQ.Q = more(g.Q, limb.Of(1))
	return []api.Group{{}, twoQ, oddQ, modulo(5, 4, 1), {P: top, Q: top, G: limb.Of(4), H: limb.Of(9)}}
}

// noBases answers groups whose G, or H, or both, are no members.
func noBases(t *testing.T, g api.Group) []api.Group {
	t.Helper()
	var l []api.Group
	less, _ := limb.Sub(g.P, limb.Of(1)) // P - 1 is no square modulo a safe prime
	for _, x := range []api.Nat{{}, less, g.P, top} {
		if grp.Is(g, x) {
			t.Fatalf("%s is a member", limb.Text(x))
		}
		ofG, ofH, both := g, g, g
		ofG.G, ofH.H = x, x
		both.G, both.H = x, x
		l = append(l, ofG, ofH, both)
	}
	return l
}

// noNodes answers numbers of which none is a node's.
func noNodes() []int {
	return []int{0, -1, -2, api.MaxNodes + 1, api.MaxNodes + 2, math.MinInt, math.MaxInt, 1 << 32, 1<<32 + 1}
}

// noBounds answers numbers of which none is a bound, of however many nodes.
func noBounds() []int {
	return []int{-1, api.MaxTol + 1, math.MinInt, math.MaxInt, math.MaxInt / 3, 1 << 32, math.MinInt / 3, 1<<63/3 - 1}
}

// noDeals answers dealings that are none: by their dealer, by how many commitments there are, or by one that is no member.
func noDeals(d api.Deal, g api.Group) []api.Deal {
	var l []api.Deal
	for _, dealer := range noNodes() {
		l = append(l, api.Deal{Dealer: dealer, Commits: d.Commits})
	}
	one := limb.Of(1)
	for _, n := range []int{0, most + 1, api.MaxItems + 1} {
		l = append(l, api.Deal{Dealer: 1, Commits: slices.Repeat([]api.Nat{one}, n)})
	}
	less, _ := limb.Sub(g.P, one)
	for _, x := range []api.Nat{{}, less, g.P, more(g.P, one), top} {
		for i := range d.Commits {
			commits := slices.Clone(d.Commits)
			commits[i] = x
			l = append(l, api.Deal{Dealer: 1, Commits: commits})
		}
	}
	return append(l, api.Deal{})
}

// of answers shares of these nodes.
func of(nodes ...int) []api.Share {
	var l []api.Share
	for i, n := range nodes {
		l = append(l, api.Share{Node: n, S: limb.Of(uint64(i)), T: limb.Of(7)})
	}
	return l
}

// upTo answers the numbers from 1 to n.
func upTo(n int) []int {
	var l []int
	for i := range n {
		l = append(l, i+1)
	}
	return l
}

// isNoDeal sees to it that an error is told, and nothing else.
func isNoDeal(t *testing.T, what string, d api.Deal, e, want api.Errno) {
	t.Helper()
	if d.Dealer != 0 || d.Commits != nil || e != want {
		t.Errorf("%s: %v, error %d, want error %d", what, d, e, want)
	}
}

// isNoShare sees to it that an error is told, and nothing else.
func isNoShare(t *testing.T, what string, x api.Share, e, want api.Errno) {
	t.Helper()
	if x != (api.Share{}) || e != want {
		t.Errorf("%s: %v, error %d, want error %d", what, x, e, want)
	}
}

// isNoList sees to it that an error is told, and nothing else.
func isNoList(t *testing.T, what string, l []int, e, want api.Errno) {
	t.Helper()
	if len(l) != 0 || e != want {
		t.Errorf("%s: %v, error %d, want error %d", what, l, e, want)
	}
}

func TestSumRefuses(t *testing.T) { // 12.1: the group, how many there are, the dealings, in this order
	for _, g := range params(t) {
		a := deals(t, g, 1, list(3, 2), list(5, 7)).deal
		sums := func(what string, h api.Group, want api.Errno, l ...api.Deal) {
			t.Helper()
			d, e := joint.Sum(h, l...)
			isNoDeal(t, what, d, e, want)
		}
		for _, no := range noGroups(g) {
			sums("no group", no, api.ErrGroup, a)
			sums("no group, no dealings", no, api.ErrGroup)
			sums("no group, too many", no, api.ErrGroup, make([]api.Deal, api.MaxNodes+1)...)
			sums("no group, no dealing", no, api.ErrGroup, api.Deal{})
		}
		sums("no dealings", g, api.ErrArg)
		sums("an empty list", g, api.ErrArg, []api.Deal{}...)
		sums("too many", g, api.ErrArg, slices.Repeat([]api.Deal{a}, api.MaxNodes+1)...)
		sums("too many, and none of them one", g, api.ErrArg, make([]api.Deal, api.MaxNodes+1)...)
		sums("very many", g, api.ErrArg, make([]api.Deal, 1<<16)...)
		for _, no := range noDeals(a, g) {
			sums("no dealing", g, api.ErrDeal, no)
			sums("no dealing ahead", g, api.ErrDeal, no, a)
			sums("no dealing behind", g, api.ErrDeal, a, a, no)
		}
		sums("as many as may be, the last is none", g, api.ErrDeal, append(slices.Repeat([]api.Deal{a}, api.MaxNodes-1), api.Deal{})...)
	}
}

func TestSharesRefuses(t *testing.T) { // 12.1: the group, then none, too many, not all of one node, one that may be
	for _, g := range params(t) {
		adds := func(what string, h api.Group, want api.Errno, l ...api.Share) {
			t.Helper()
			x, e := joint.Shares(h, l...)
			isNoShare(t, what, x, e, want)
		}
		for _, no := range noGroups(g) {
			adds("no group", no, api.ErrGroup, of(1, 1)...)
			adds("no group, no shares", no, api.ErrGroup)
			adds("no group, two nodes", no, api.ErrGroup, of(1, 2)...)
			adds("no group, too many", no, api.ErrGroup, slices.Repeat(of(1), api.MaxNodes+1)...)
		}
		adds("no shares", g, api.ErrArg)
		adds("an empty list", g, api.ErrArg, []api.Share{}...)
		adds("too many", g, api.ErrArg, slices.Repeat(of(1), api.MaxNodes+1)...)
		adds("two nodes", g, api.ErrArg, of(1, 2)...)
		adds("another node at the end", g, api.ErrArg, of(3, 3, 3, 16)...)
		adds("another node ahead", g, api.ErrArg, of(4, 3, 3)...)
		adds("a node that may not be among others", g, api.ErrArg, of(3, 3, 0)...)
		for _, no := range noNodes() { // a number that is no node's, however often
			adds("no node", g, api.ErrArg, api.Share{Node: no})
			adds("no node, some times", g, api.ErrArg, of(no, no, no)...)
			adds("no node, and one behind", g, api.ErrArg, of(no, 1)...)
			adds("no node, too many", g, api.ErrArg, slices.Repeat(of(no), api.MaxNodes+1)...)
			adds("no node modulo a small number", modulo(1162079267, 4, 9), api.ErrArg, api.Share{Node: no})
			for _, not := range noGroups(g) {
				adds("no group, no node", not, api.ErrGroup, of(no)...)
			}
		}
	}
}

func TestComplaintsRefuses(t *testing.T) { // 12.1: the group, the dealing, then n and how many shares there are
	for _, g := range params(t) {
		a := deals(t, g, 1, list(3, 2), list(5, 7))
		many := append(slices.Clone(a.shares), a.shares[0])
		for _, n := range append(noNodes(), 4) {
			for _, l := range [][]api.Share{nil, a.shares, many} {
				for _, no := range noGroups(g) {
					got, e := joint.Complaints(no, a.deal, n, l...)
					isNoList(t, "no group", got, e, api.ErrGroup)
					got, e = joint.Complaints(no, api.Deal{}, n, l...)
					isNoList(t, "no group, no dealing", got, e, api.ErrGroup)
				}
				for _, no := range noDeals(a.deal, g) {
					got, e := joint.Complaints(g, no, n, l...)
					isNoList(t, "no dealing", got, e, api.ErrDeal)
				}
				if n == 4 && len(l) <= api.MaxNodes {
					continue
				}
				for _, h := range append(noBases(t, g)[:3], g) {
					got, e := joint.Complaints(h, a.deal, n, l...)
					isNoList(t, "no n, or too many", got, e, api.ErrArg)
				}
			}
		}
	}
}

func TestQualifiedRefuses(t *testing.T) { // 12.2: the group, then n and t, the lists, how many dealings there are
	for _, g := range params(t) {
		a := deals(t, g, 1, list(3, 2), list(5, 7))
		one, lists := only(a), [][]api.Share{a.shares}
		many, manyLists := slices.Repeat(one, api.MaxNodes+1), slices.Repeat(lists, api.MaxNodes+1)
		qualifies := func(what string, h api.Group, n, bound int, d []api.Deal, l [][]api.Share, want api.Errno) {
			t.Helper()
			got, e := joint.Qualified(h, n, bound, d, l)
			isNoList(t, what, got, e, want)
		}
		for _, no := range noGroups(g) {
			qualifies("no group", no, 4, 1, one, lists, api.ErrGroup)
			qualifies("no group, no n", no, 3, 1, one, lists, api.ErrGroup)
			qualifies("no group, no lists", no, 4, 1, one, nil, api.ErrGroup)
			qualifies("no group, too many", no, 4, 1, many, manyLists, api.ErrGroup)
		}
		for _, no := range noBounds() {
			for _, n := range []int{1, 4, 16} {
				qualifies("no bound", g, n, no, one, lists, api.ErrArg)
			}
		}
		for bound := range api.MaxTol + 1 {
			for _, n := range append(noNodes(), 3*bound, 3*bound-1) {
				qualifies("no n", g, n, bound, one, lists, api.ErrArg)
				qualifies("no n, no dealings", g, n, bound, nil, nil, api.ErrArg)
			}
		}
		qualifies("a list is missing", g, 4, 1, one, nil, api.ErrArg)
		qualifies("a list too many", g, 4, 1, one, manyLists[:2], api.ErrArg)
		qualifies("lists alone", g, 4, 1, nil, lists, api.ErrArg)
		qualifies("too many", g, 4, 1, many, manyLists, api.ErrArg)
		qualifies("too many, too few lists", g, 4, 1, many, lists, api.ErrArg)
	}
}

func TestBoundsAtTheEdges(t *testing.T) { // 12.2: from 3 t and 1 to MaxNodes nodes
	g := modulo(47, 4, 9)
	for bound := -1; bound <= api.MaxTol+2; bound++ {
		for n := -1; n <= api.MaxNodes+2; n++ {
			want := api.ErrArg
			if bound >= 0 && bound <= api.MaxTol && n > 3*bound && n <= api.MaxNodes {
				want = api.OK
			}
			got, e := joint.Qualified(g, n, bound, nil, nil)
			isNoList(t, "no dealings", got, e, want)
		}
	}
}

func TestRefreshRefuses(t *testing.T) { // 12.3: Sum's errors of all, then one that is not of nought
	for _, g := range params(t) {
		a := deals(t, g, 1, list(3, 2), list(5, 7)).deal
		z := deals(t, g, 2, list(0, 9), list(0, 4)).deal
		refreshes := func(what string, h api.Group, want api.Errno, d api.Deal, l ...api.Deal) {
			t.Helper()
			out, e := joint.Refresh(h, d, l...)
			isNoDeal(t, what, out, e, want)
		}
		for _, no := range noGroups(g) {
			refreshes("no group", no, api.ErrGroup, a, z)
			refreshes("no group, not of nought", no, api.ErrGroup, a, a)
			refreshes("no group, too many", no, api.ErrGroup, a, slices.Repeat([]api.Deal{z}, api.MaxNodes)...)
		}
		refreshes("too many together", g, api.ErrArg, a, slices.Repeat([]api.Deal{z}, api.MaxNodes)...)
		refreshes("too many, and not of nought", g, api.ErrArg, a, slices.Repeat([]api.Deal{a}, api.MaxNodes)...)
		refreshes("too many, and none of them one", g, api.ErrArg, a, make([]api.Deal, api.MaxNodes)...)
		if d, e := joint.Refresh(g, a, slices.Repeat([]api.Deal{z}, api.MaxNodes-1)...); d.Commits[0] != a.Commits[0] || e != api.OK {
			t.Errorf("as many as may be: %v, error %d", d, e)
		}
		for _, no := range noDeals(z, g) {
			refreshes("no dealing", g, api.ErrDeal, no, z)
			refreshes("no dealing alone", g, api.ErrDeal, no)
			refreshes("no dealing behind", g, api.ErrDeal, a, z, no)
		}
		refreshes("not of nought", g, api.ErrDeal, a, a)
		refreshes("not of nought behind", g, api.ErrDeal, a, z, z, a)
		refreshes("not of nought ahead", g, api.ErrDeal, z, a, z)
		refreshes("not of nought by its cover", g, api.ErrDeal, a, deals(t, g, 2, list(0, 9), list(1, 4)).deal)
	}
}

func TestRecoverRefuses(t *testing.T) { // 12.3: the group; node, t, too many; too few; a share's node; two of one node
	for _, g := range params(t) {
		recovers := func(what string, h api.Group, node, bound int, want api.Errno, l ...api.Share) {
			t.Helper()
			x, e := joint.Recover(h, node, bound, l...)
			isNoShare(t, what, x, e, want)
		}
		for _, no := range noGroups(g) {
			recovers("no group", no, 4, 1, api.ErrGroup, of(1, 2)...)
			recovers("no group, no node", no, 0, 1, api.ErrGroup, of(1, 2)...)
			recovers("no group, too few", no, 4, 1, api.ErrGroup)
			recovers("no group, two of one", no, 4, 1, api.ErrGroup, of(1, 1)...)
		}
		for _, no := range noNodes() {
			recovers("no node", g, no, 1, api.ErrArg, of(1, 2)...)
			recovers("no node, too few", g, no, 1, api.ErrArg)
			recovers("no node, two of one", g, no, 1, api.ErrArg, of(2, 2)...)
			recovers("a share's node", g, 4, 1, api.ErrArg, of(no, 2)...)
			recovers("a share's node, alone", g, 4, 0, api.ErrArg, of(no)...)
			recovers("a share's node behind", g, 4, 1, api.ErrArg, of(1, 2, 3, no)...)
			recovers("a share's node behind two of one", g, 4, 1, api.ErrArg, of(1, 1, no)...)
			recovers("a share's node twice", g, 4, 1, api.ErrArg, of(no, no)...)
			recovers("a share's node, but too few", g, 4, 1, api.ErrShare, of(no)...)
		}
		for _, no := range noBounds() {
			recovers("no bound", g, 4, no, api.ErrArg, of(upTo(16)...)...)
			recovers("no bound, no shares", g, 4, no, api.ErrArg)
		}
		recovers("too many", g, 4, 1, api.ErrArg, of(append(upTo(16), 1)...)...)
		recovers("two of one node", g, 4, 1, api.ErrShare, of(3, 3)...)
		recovers("the very same twice", g, 4, 1, api.ErrShare, slices.Repeat(of(3), 2)...)
		recovers("two of one node behind", g, 4, 1, api.ErrShare, of(1, 2, 3, 5, 3)...)
		recovers("the last of all is of the first's node", g, 4, 0, api.ErrShare, of(append(upTo(15), 1)...)...)
	}
}

func TestTooFewShares(t *testing.T) { // 12.3: t and 1 of them are enough
	g := params(t)[0]
	for bound := range api.MaxTol + 1 {
		for n := range api.MaxNodes + 2 {
			want := api.OK
			switch {
			case n > api.MaxNodes:
				want = api.ErrArg
			case n <= bound:
				want = api.ErrShare
			}
			if x, e := joint.Recover(g, 16, bound, of(upTo(n)...)...); e != want || (x.Node == 16) != (e == api.OK) {
				t.Errorf("bound %d, %d shares: %v, error %d, want %d", bound, n, x, e, want)
			}
		}
	}
}

func TestNodesThatFallTogetherModuloQ(t *testing.T) { // 12.3, 10.2: of these nothing comes, but those behind do not count
	for _, c := range []struct {
		g     api.Group
		nodes []int
		want  api.Errno
	}{
		{modulo(7, 2, 4), []int{1, 4}, api.ErrShare}, {modulo(11, 4, 9), []int{5, 10}, api.ErrShare}, {modulo(23, 4, 9), []int{1, 12, 2}, api.ErrShare},
		{modulo(31, 1, 1), []int{2, 7}, api.ErrShare}, // Q is 15: 5 has no inverse
		{modulo(7, 2, 4), []int{1, 2, 4}, api.OK}, {modulo(23, 4, 9), []int{1, 2, 12, 13}, api.OK}, {modulo(31, 1, 1), []int{2, 3, 7}, api.OK},
	} {
		x, e := joint.Recover(c.g, 3, 1, of(c.nodes...)...)
		if e != c.want || (x.Node == 3) != (e == api.OK) || (e != api.OK && x != (api.Share{})) {
			t.Errorf("nodes %v modulo %d: %v, error %d", c.nodes, c.g.Q[0], x, e)
		}
	}
}
