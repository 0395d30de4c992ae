package vss_test

import (
	"slices"
	"testing"

	"seneschal/api"
	"seneschal/limb"
	"seneschal/vss"
)

// pair is a dealing's two polynomials.
type pair struct{ s, u []api.Nat }

// noPairs answers polynomials that make no dealing.
func noPairs() []pair {
	few, all, many := list(3, 2), list(1, 2, 3, 4, 5, 6), list(1, 2, 3, 4, 5, 6, 7)
	far := make([]api.Nat, api.MaxItems+1)
	return []pair{
		{nil, nil}, {[]api.Nat{}, nil}, {few, nil}, {nil, few}, {few, few[:1]}, {few[:1], few}, {all, many}, {many, all},
		{many, many}, {far, far}, {few, far},
	}
}

// noDeals answers dealings that are none: by their dealer, by how many commitments there are, or by one that is no member.
func noDeals(d api.Deal, g api.Group) []api.Deal {
	var l []api.Deal
	for _, dealer := range noNodes() {
		l = append(l, api.Deal{Dealer: dealer, Commits: d.Commits})
	}
	one := limb.Of(1)
	for _, commits := range [][]api.Nat{nil, {}, repeated(most+1, one), repeated(api.MaxItems+1, one)} {
		l = append(l, api.Deal{Dealer: 1, Commits: commits})
	}
	less, _ := limb.Sub(g.P, one)
	for _, x := range []api.Nat{{}, less, g.P, more(g.P, one), top} {
		for i := range d.Commits {
			commits := slices.Clone(d.Commits)
			commits[i] = x
			l = append(l, api.Deal{Dealer: 1, Commits: commits})
		}
	}
	return append(l, api.Deal{})
}

// isNoDeal sees to it that an error is told, and nothing else.
func isNoDeal(t *testing.T, what string, d api.Deal, e, want api.Errno) {
	t.Helper()
	if d.Dealer != 0 || d.Commits != nil || e != want {
		t.Errorf("%s: %v, error %d, want error %d", what, d, e, want)
	}
}

// isNoShare sees to it that an error is told, and nothing else.
func isNoShare(t *testing.T, what string, x api.Share, e, want api.Errno) {
	t.Helper()
	if x != (api.Share{}) || e != want {
		t.Errorf("%s: %v, error %d, want error %d", what, x, e, want)
	}
}

func TestDealingsThatAreRefused(t *testing.T) { // 11.1: the group, the dealing, its members, in this order
	few := list(3, 2)
	for _, g := range params(t) {
		for _, no := range noGroups(g) {
			d, e := vss.Deal(no, 1, few, few)
			isNoDeal(t, "no group", d, e, api.ErrGroup)
			d, e = vss.Deal(no, 0, nil, few)
			isNoDeal(t, "no group, and nothing else right", d, e, api.ErrGroup)
		}
		for _, h := range append(noBases(t, g), g) {
			for _, dealer := range noNodes() {
				d, e := vss.Deal(h, dealer, few, few)
				isNoDeal(t, "no dealer", d, e, api.ErrDeal)
			}
			for _, p := range noPairs() {
				d, e := vss.Deal(h, 1, p.s, p.u)
				isNoDeal(t, "no polynomials", d, e, api.ErrDeal)
			}
		}
		for _, h := range noBases(t, g) {
			for _, l := range [][]api.Nat{few, list(0), make([]api.Nat, most)} {
				d, e := vss.Deal(h, 1, l, l)
				isNoDeal(t, "no members", d, e, api.ErrGroup)
			}
		}
	}
}

func TestSharesThatAreRefused(t *testing.T) { // 11.1: the group, the polynomials, the node; G and H are not asked for
	few := list(3, 2)
	for _, g := range params(t) {
		for _, no := range noGroups(g) {
			x, e := vss.Share(no, 1, few, few)
			isNoShare(t, "no group", x, e, api.ErrGroup)
			x, e = vss.Share(no, 0, nil, few)
			isNoShare(t, "no group, and nothing else right", x, e, api.ErrGroup)
		}
		for _, p := range noPairs() {
			for _, node := range append(noNodes(), 1, 16) {
				x, e := vss.Share(g, node, p.s, p.u)
				isNoShare(t, "no polynomials", x, e, api.ErrDeal)
			}
		}
		for _, node := range noNodes() {
			x, e := vss.Share(g, node, few, few)
			isNoShare(t, "no node", x, e, api.ErrArg)
		}
		for _, h := range noBases(t, g) {
			x, e := vss.Share(h, 2, few, list(5, 7))
			if want := (api.Share{Node: 2, S: limb.Of(7), T: limb.Of(19)}); x != want || e != api.OK {
				t.Errorf("G or H is no member: %v, error %d", x, e)
			}
		}
	}
}

func TestChecksThatAreRefused(t *testing.T) { // 11.1, 11.2: Check's errors are At's and Verify's, ahead of theirs
	for _, g := range params(t) {
		d := dealt(t, g, list(3, 2), list(5, 7))
		checks := func(what string, h api.Group, d api.Deal, want api.Errno) {
			t.Helper()
			if e := vss.Check(h, d); e != want {
				t.Errorf("Check, %s: error %d, want %d", what, e, want)
			}
			for _, node := range []int{2, 0, api.MaxNodes + 1} {
				if at, e := vss.At(h, d, node); at != (api.Nat{}) || e != want {
					t.Errorf("At %d, %s: %v, error %d, want %d", node, what, at, e, want)
				}
				if e := vss.Verify(h, d, api.Share{Node: node, S: limb.Of(7), T: limb.Of(19)}); e != want {
					t.Errorf("Verify at %d, %s: error %d, want %d", node, what, e, want)
				}
			}
		}
		for _, no := range noGroups(g) {
			checks("no group", no, d, api.ErrGroup)
			checks("no group, no dealing", no, api.Deal{}, api.ErrGroup)
		}
		for _, no := range noDeals(d, g) {
			checks("no dealing", g, no, api.ErrDeal)
			for _, h := range noBases(t, g)[:3] {
				checks("no dealing, no members", h, no, api.ErrDeal)
			}
		}
	}
}

func TestCheckAsksForNeitherGNorH(t *testing.T) { // 11.1: At's and Check's errors are those of P, Q and d alone
	for _, g := range params(t) {
		d := dealt(t, g, list(3, 2), list(5, 7))
		want, _ := vss.At(g, d, 2)
		for _, h := range noBases(t, g) {
			if e := vss.Check(h, d); e != api.OK {
				t.Errorf("Check: error %d", e)
			}
			if at, e := vss.At(h, d, 2); at != want || e != api.OK {
				t.Errorf("At: %v, error %d", at, e)
			}
		}
	}
}

func TestNodesThatAreRefused(t *testing.T) { // 11.1, 11.2: ahead of G and H that are no members
	for _, g := range params(t) {
		d := dealt(t, g, list(3, 2), list(5, 7))
		for _, h := range append(noBases(t, g), g) {
			for _, node := range noNodes() {
				if at, e := vss.At(h, d, node); at != (api.Nat{}) || e != api.ErrArg {
					t.Errorf("At %d: %v, error %d", node, at, e)
				}
				if e := vss.Verify(h, d, api.Share{Node: node, S: limb.Of(7), T: limb.Of(19)}); e != api.ErrArg {
					t.Errorf("Verify at %d: error %d", node, e)
				}
			}
		}
		for _, h := range noBases(t, g) {
			for _, s := range []uint64{7, 8} { // the right share, and another one
				if e := vss.Verify(h, d, api.Share{Node: 2, S: limb.Of(s), T: limb.Of(19)}); e != api.ErrGroup {
					t.Errorf("Verify, no members: error %d", e)
				}
			}
		}
	}
}

func TestSizesAtTheEdges(t *testing.T) { // 11.1: 1 and MaxTol and 1 commitments may be, one more may not
	for _, g := range params(t) {
		for n := range most + 3 {
			l := make([]api.Nat, n)
			want, wantArg := api.OK, api.ErrArg
			if n < 1 || n > most {
				want, wantArg = api.ErrDeal, api.ErrDeal
			}
			if _, e := vss.Deal(g, 16, l, l); e != want {
				t.Errorf("Deal of %d: error %d, want %d", n, e, want)
			}
			if _, e := vss.Share(g, 16, l, l); e != want {
				t.Errorf("Share of %d: error %d, want %d", n, e, want)
			}
			if _, e := vss.Share(g, 17, l, l); e != wantArg {
				t.Errorf("Share of %d at 17: error %d, want %d", n, e, wantArg)
			}
			if e := vss.Check(g, api.Deal{Dealer: 16, Commits: repeated(n, limb.Of(1))}); e != want {
				t.Errorf("Check of %d: error %d, want %d", n, e, want)
			}
		}
	}
}

func TestOpenRefuses(t *testing.T) { // 11.2: the group, the arguments, two of one node, in this order
	of := func(nodes ...int) []api.Share {
		var l []api.Share
		for i, n := range nodes {
			l = append(l, api.Share{Node: n, S: limb.Of(uint64(i)), T: limb.Of(7)})
		}
		return l
	}
	opens := func(what string, g api.Group, want api.Errno, l ...api.Share) {
		t.Helper()
		if a, b, e := vss.Open(g, l...); a != (api.Nat{}) || b != (api.Nat{}) || e != want {
			t.Errorf("%s: %v, %v, error %d, want error %d", what, a, b, e, want)
		}
	}
	for _, g := range params(t) {
		for _, no := range noGroups(g) {
			opens("no group", no, api.ErrGroup, of(1, 2)...)
			opens("no group, no shares", no, api.ErrGroup)
			opens("no group, no node, two of one", no, api.ErrGroup, of(0, 1, 1)...)
		}
		opens("no shares", g, api.ErrArg)
		opens("an empty list", g, api.ErrArg, []api.Share{}...)
		opens("too many", g, api.ErrArg, slices.Repeat(of(1), api.MaxItems+1)...)
		opens("as many as may be", g, api.ErrShare, slices.Repeat(of(1), api.MaxItems)...)
		for _, no := range noNodes() {
			opens("no node", g, api.ErrArg, of(no)...)
			opens("no node behind", g, api.ErrArg, of(1, 2, no)...)
			opens("no node behind two of one", g, api.ErrArg, of(1, 1, no)...)
			opens("no node twice", g, api.ErrArg, of(no, no)...)
		}
		opens("two of one node", g, api.ErrShare, of(3, 3)...)
		opens("two of one node among others", g, api.ErrShare, of(1, 16, 2, 5, 16)...)
		opens("the very same twice", g, api.ErrShare, slices.Repeat(of(4), 2)...)
		for _, h := range noBases(t, g) { // G and H are not asked for
			if a, b, e := vss.Open(h, of(5)...); a != (api.Nat{}) || b != limb.Of(7) || e != api.OK {
				t.Errorf("G or H is no member: %v, %v, error %d", a, b, e)
			}
		}
	}
}

func TestNodesThatFallTogetherModuloQ(t *testing.T) { // 11.2, 10.2: of these nothing comes, nor where there is no inverse
	for _, c := range []struct {
		g    api.Group
		a, b int
	}{
		{modulo(7, 2, 4), 1, 4}, {modulo(7, 2, 4), 2, 14}, {modulo(11, 4, 9), 5, 10}, {modulo(23, 4, 9), 1, 12}, {modulo(31, 1, 1), 1, 16}, {modulo(31, 1, 1), 2, 7},
	} {
		x, y := api.Share{Node: c.a, S: limb.Of(1)}, api.Share{Node: c.b, S: limb.Of(1)}
		if a, b, e := vss.Open(c.g, x, y); a != (api.Nat{}) || b != (api.Nat{}) || e != api.ErrShare {
			t.Errorf("nodes %d and %d modulo %d: %v, %v, error %d", c.a, c.b, c.g.Q[0], a, b, e)
		}
	}
}

func TestArgumentsAreNotChangedAndAnswersAreOnesOwn(t *testing.T) { // rule 4
	g := params(t)[0]
	s, u := list(3, 2), list(5, 7)
	d := dealt(t, g, s, u)
	kept := slices.Clone(d.Commits)
	x, _ := vss.Share(g, 2, s, u)
	y, _ := vss.Share(g, 5, s, u)
	shares := []api.Share{x, y}
	vss.Open(g, shares...)
	vss.At(g, d, 7)
	vss.Verify(g, d, x)
	if !slices.Equal(s, list(3, 2)) || !slices.Equal(u, list(5, 7)) || !slices.Equal(d.Commits, kept) || !slices.Equal(shares, []api.Share{x, y}) {
		t.Errorf("what was handed in is changed: %v, %v, %v, %v", s, u, d, shares)
	}
	d.Commits[0] = api.Nat{}
	if again := dealt(t, g, s, u); !slices.Equal(again.Commits, kept) {
		t.Errorf("a dealing is not the caller's own: %v", again)
	}
	constants := list(0)
	if d := dealt(t, g, constants, constants); d.Commits[0] != limb.Of(1) || constants[0] != (api.Nat{}) {
		t.Errorf("a dealing shares memory with its coefficients: %v, %v", d, constants)
	}
}
