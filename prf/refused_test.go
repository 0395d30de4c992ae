package prf_test

import (
	"math"
	"slices"
	"testing"

	"seneschal/api"
	"seneschal/grp"
	"seneschal/limb"
	"seneschal/prf"
)

// noGroups answers what grp.Check refuses; the G and the H of each are squares.
func noGroups(g api.Group) []api.Group {
	twoQ, oddQ, noQ := g, g, g
	twoQ.P = more(g.Q, g.Q)
	oddQ.Q = more(g.Q, limb.Of(1))
	noQ.Q = api.Nat{}
	return []api.Group{
		{}, twoQ, oddQ, noQ, modulo(limb.Of(5), 4, 1), modulo(limb.Of(1), 1, 1), modulo(limb.Of(22), 1, 1),
		{P: top, Q: top, G: limb.Of(4), H: limb.Of(9)}, {P: top, G: limb.Of(1), H: limb.Of(1)},
	}
}

// noMembers answers numbers of which none is a member.
func noMembers(t *testing.T, g api.Group) []api.Nat {
	t.Helper()
	l := []api.Nat{{}, less(g.P, 1), g.P, more(g.P, limb.Of(1)), more(g.P, limb.Of(9)), top, {1, 1, 1, 1 << 63}}
	for _, x := range l { // P - 1 is no square modulo a safe prime
		if grp.Is(g, x) {
			t.Fatalf("%s is a member", limb.Text(x))
		}
	}
	return l
}

// noBases answers groups whose G, or H, or both, are no members.
func noBases(t *testing.T, g api.Group) []api.Group {
	t.Helper()
	var l []api.Group
	for _, x := range noMembers(t, g) {
		ofG, ofH, both := g, g, g
		ofG.G, ofH.H = x, x
		both.G, both.H = x, x
		l = append(l, ofG, ofH, both)
	}
	return l
}

// noNodes answers numbers that are no node's.
func noNodes() []int { return []int{0, -1, 17, 257, math.MinInt, math.MaxInt} }

// noTexts answers too many bytes.
func noTexts() [][]byte { return [][]byte{make([]byte, api.MaxBytes+1), make([]byte, 1<<16)} }

// noDeals answers dealings that are none.
func noDeals(t *testing.T, g api.Group, d api.Deal) []api.Deal {
	t.Helper()
	l := []api.Deal{{}, {Dealer: 1}, {Dealer: 0, Commits: d.Commits}, {Dealer: 17, Commits: d.Commits}, {Dealer: 1, Commits: slices.Repeat(list(1), most+1)}}
	for _, x := range noMembers(t, g) {
		for i := range d.Commits {
			commits := slices.Clone(d.Commits)
			commits[i] = x
			l = append(l, api.Deal{Dealer: 1, Commits: commits})
		}
	}
	return l
}

// refusal is what a call is handed that it must refuse.
type refusal struct {
	what string
	g    api.Group
	d    api.Deal
	x    []byte
	l    []api.Partial
	want api.Errno
}

func (r refusal) combine(t *testing.T) {
	t.Helper()
	if w, e := prf.Combine(r.g, r.d, r.x, r.l...); w != (api.Nat{}) || e != r.want {
		t.Errorf("Combine, %s: %v, error %d, want error %d", r.what, w, e, r.want)
	}
}

func (r refusal) right(t *testing.T) {
	t.Helper()
	if l, e := prf.Right(r.g, r.d, r.x, r.l...); l != nil || e != r.want {
		t.Errorf("Right, %s: %v, error %d, want error %d", r.what, l, e, r.want)
	}
}

func (r refusal) check(t *testing.T) {
	t.Helper()
	if e := prf.Check(r.g, r.d, r.x, r.l[0]); e != r.want {
		t.Errorf("Check, %s: error %d, want %d", r.what, e, r.want)
	}
}

// wrongs answers a right partial, and some that are wrong in any way.
func wrongs(g api.Group, d dealt) []api.Partial {
	far, none, turned := d.parts[0], d.parts[0], d.parts[0]
	far.Node, none.U, turned.Proof.Y[0] = 17, g.P, turned.Proof.Y[0]^1
	return []api.Partial{d.parts[0], {}, far, none, turned}
}

func TestEvalRefuses(t *testing.T) { // 14.1: the group, G or H, then the node, the bytes
	for _, g := range params(t) {
		refuses := func(what string, h api.Group, x []byte, node int, want api.Errno) {
			t.Helper()
			for _, s := range []api.Share{{Node: node}, {Node: node, S: limb.Of(5), T: limb.Of(7)}, {Node: node, S: g.Q, T: g.Q}, {Node: node, S: top, T: top}} {
				if p, e := prf.Eval(h, x, s); p != (api.Partial{}) || e != want {
					t.Errorf("%s: %v, error %d, want error %d", what, p, e, want)
				}
			}
		}
		for _, no := range append(noGroups(g), noBases(t, g)...) {
			refuses("no group", no, nil, 1, api.ErrGroup)
			refuses("no group, no node", no, nil, 0, api.ErrGroup)
			refuses("no group, too many bytes", no, noTexts()[0], 1, api.ErrGroup)
		}
		for _, no := range noNodes() {
			refuses("no node", g, nil, no, api.ErrArg)
			refuses("no node, too many bytes", g, noTexts()[0], no, api.ErrArg)
		}
		for _, no := range noTexts() {
			refuses("too many bytes", g, no, 16, api.ErrArg)
		}
	}
}

func TestValueRefuses(t *testing.T) { // 14.1: the group, then the bytes; G and H have no part in it
	for _, g := range params(t) {
		refuses := func(what string, h api.Group, x []byte, want api.Errno) {
			t.Helper()
			for _, k := range edges(g) {
				if w, e := prf.Value(h, x, k); w != (api.Nat{}) || e != want {
					t.Errorf("%s: %v, error %d, want error %d", what, w, e, want)
				}
			}
		}
		for _, no := range noGroups(g) {
			refuses("no group", no, nil, api.ErrGroup)
			refuses("no group, too many bytes", no, noTexts()[0], api.ErrGroup)
		}
		for _, no := range noTexts() {
			refuses("too many bytes", g, no, api.ErrArg)
		}
		for _, h := range noBases(t, g) {
			if w, e := prf.Value(h, nil, limb.Of(5)); w != value(g, nil, limb.Of(5)) || e != api.OK {
				t.Errorf("G or H is no member: %v, error %d", w, e)
			}
		}
	}
}

func TestKeyRefuses(t *testing.T) { // 14.1
	for _, no := range noTexts() {
		for _, w := range []api.Nat{{}, limb.Of(5), top} {
			if k, e := prf.Key(no, w); k != nil || e != api.ErrArg {
				t.Errorf("too many bytes: %x, error %d", k, e)
			}
		}
	}
}

func TestNothingIsDoneByWhatIsNoDealing(t *testing.T) { // 14.1, 14.2: vss.Check's errors, ahead of all others
	for _, g := range params(t) {
		d := few(t, g)
		refuses := func(what string, h api.Group, no api.Deal, want api.Errno) {
			t.Helper()
			for _, x := range [][]byte{d.x, noTexts()[0]} {
				for _, l := range [][]api.Partial{d.parts, nil, wrongs(g, d), slices.Repeat(wrongs(g, d), 4)} {
					r := refusal{what, h, no, x, l, want}
					r.combine(t)
					r.right(t)
					if len(l) > 0 {
						r.check(t)
					}
				}
				for _, p := range wrongs(g, d) {
					refusal{what, h, no, x, []api.Partial{p}, want}.check(t)
				}
			}
		}
		for _, no := range noGroups(g) {
			refuses("no group", no, d.deal, api.ErrGroup)
			refuses("no group, no dealing", no, api.Deal{}, api.ErrGroup)
		}
		for _, no := range noDeals(t, g, d.deal) {
			refuses("no dealing", g, no, api.ErrDeal)
			refuses("no dealing, no members", noBases(t, g)[0], no, api.ErrDeal)
		}
	}
}

func TestCheckRefuses(t *testing.T) { // 14.1: the node or the bytes, then G or H, then the proof
	for _, g := range params(t) {
		d := few(t, g)
		checks := func(what string, h api.Group, x []byte, p api.Partial, want api.Errno) {
			t.Helper()
			refusal{what, h, d.deal, x, []api.Partial{p}, want}.check(t)
		}
		for _, h := range append(noBases(t, g), g) {
			for _, node := range noNodes() {
				for _, p := range wrongs(g, d) {
					p.Node = node
					checks("no node", h, d.x, p, api.ErrArg)
				}
			}
			for _, p := range wrongs(g, d) {
				checks("too many bytes", h, noTexts()[0], p, api.ErrArg)
			}
		}
		for _, h := range noBases(t, g) {
			checks("no members", h, d.x, d.parts[1], api.ErrGroup)
			checks("no members, a wrong proof", h, d.x, api.Partial{Node: 2, U: d.parts[1].U}, api.ErrGroup)
			checks("no members, no member", h, d.x, api.Partial{Node: 2}, api.ErrGroup)
		}
		for _, u := range noMembers(t, g) {
			checks("a U that is no member", g, d.x, api.Partial{Node: 2, U: u, Proof: d.parts[1].Proof}, api.ErrProof)
		}
		checks("nothing but a node", g, d.x, api.Partial{Node: 2}, api.ErrProof)
	}
}

func TestCombineRefuses(t *testing.T) { // 14.2: the bytes or a node, then how many and of whom they are, then each U
	for _, g := range params(t) {
		d := few(t, g)
		refuses := func(what string, x []byte, want api.Errno, l ...api.Partial) {
			t.Helper()
			refusal{what, g, d.deal, x, l, want}.combine(t)
		}
		all := slices.Concat(d.parts, d.parts[:1])
		for _, l := range [][]api.Partial{nil, d.at(1), d.at(1, 1), d.at(1, 2), all} {
			refuses("too many bytes", noTexts()[0], api.ErrArg, l...)
			for _, node := range noNodes() {
				refuses("no node behind", d.x, api.ErrArg, append(slices.Clone(l), api.Partial{Node: node, U: limb.Of(4)})...)
				refuses("no node ahead", d.x, api.ErrArg, append([]api.Partial{{Node: node}}, l...)...)
			}
		}
		refuses("none", d.x, api.ErrPrf)
		refuses("an empty list", d.x, api.ErrPrf, []api.Partial{}...)
		refuses("too few", d.x, api.ErrPrf, d.at(1)...)
		refuses("too many", d.x, api.ErrPrf, all...)
		refuses("far too many", d.x, api.ErrPrf, slices.Repeat(d.at(1, 2), 1<<15)...)
		refuses("two of one node", d.x, api.ErrPrf, d.at(3, 3)...)
		refuses("two of one node among others", d.x, api.ErrPrf, d.at(1, 2, 3, 16, 2)...)
		refuses("two of one node behind", d.x, api.ErrPrf, d.at(1, 2, 16, 16)...)
		for _, u := range noMembers(t, g) {
			no := api.Partial{Node: 9, U: u}
			refuses("no member", d.x, api.ErrGroup, no, d.parts[1])
			refuses("no member behind", d.x, api.ErrGroup, d.parts[1], no)
			refuses("no member behind the first ones", d.x, api.ErrGroup, d.parts[1], d.parts[0], no)
			refuses("no member, too few", d.x, api.ErrPrf, no)
			refuses("no member, two of one node", d.x, api.ErrPrf, no, no)
			refuses("no member, too many", d.x, api.ErrPrf, append(slices.Clone(d.parts), no)...)
		}
	}
}

func TestSizesAtTheEdges(t *testing.T) { // 14.2: as many partials as commitments are enough, one less is not; MaxNodes may be
	for _, g := range params(t) {
		for size := 1; size <= most; size++ {
			d := deals(t, g, nil, make([]api.Nat, size), list(1, 2, 3, 4, 5, 6)[:size])
			for n := range api.MaxNodes + 1 {
				want := api.OK
				if n < size {
					want = api.ErrPrf
				}
				if _, e := prf.Combine(g, d.deal, d.x, d.parts[:n]...); e != want {
					t.Errorf("%d of %d: error %d, want %d", n, size, e, want)
				}
				if l, e := prf.Right(g, d.deal, d.x, d.parts[:n]...); len(l) != n || e != api.OK {
					t.Errorf("%d are right, of %d, error %d", len(l), n, e)
				}
			}
		}
	}
}

func TestNodesThatFallTogetherModuloQ(t *testing.T) { // 14.2: among the first ones, ahead of a U that is no member
	for _, c := range []struct {
		g    api.Group
		a, b int
	}{
		{small()[0], 1, 4}, {small()[0], 2, 14}, {small()[1], 5, 10}, {small()[2], 1, 12}, {modulo(limb.Of(31), 1, 1), 1, 16}, {modulo(limb.Of(31), 1, 1), 2, 7},
	} {
		d := api.Deal{Dealer: 1, Commits: list(1, 1)}
		one := limb.Of(1)
		refusal{"the same", c.g, d, nil, []api.Partial{{Node: c.a, U: one}, {Node: c.b, U: one}}, api.ErrPrf}.combine(t)
		refusal{"the same, others behind", c.g, d, nil, []api.Partial{{Node: c.a, U: one}, {Node: c.b, U: one}, {Node: 3, U: one}}, api.ErrPrf}.combine(t)
		refusal{"the same, no members", c.g, d, nil, []api.Partial{{Node: c.a}, {Node: c.b}, {Node: 3}}, api.ErrPrf}.combine(t)
	}
}

func TestRightRefuses(t *testing.T) { // 14.2: the bytes, then too many; nothing else
	for _, g := range params(t) {
		d := few(t, g)
		many := slices.Concat(d.parts, d.parts[:1])
		for _, l := range [][]api.Partial{nil, d.parts, many, wrongs(g, d)} {
			refusal{"too many bytes", g, d.deal, noTexts()[0], l, api.ErrArg}.right(t)
		}
		refusal{"too many", g, d.deal, d.x, many, api.ErrPrf}.right(t)
		refusal{"too many that are nothing", g, d.deal, d.x, make([]api.Partial, 17), api.ErrPrf}.right(t)
		for _, h := range noBases(t, g) { // nothing is right then
			refusal{"no members", h, d.deal, d.x, d.parts, api.OK}.right(t)
			refusal{"no members, too many", h, d.deal, d.x, many, api.ErrPrf}.right(t)
		}
	}
}

func TestGAndHHaveNoPartInCombine(t *testing.T) { // 14.2
	for _, g := range params(t) {
		d := few(t, g)
		for _, h := range noBases(t, g) {
			combined(t, "G or H is no member", h, d, value(g, d.x, d.secret), d.at(2, 7)...)
		}
	}
}

func TestGroupsOfNoPrime(t *testing.T) { // P1: what bytes are as a member may be none there; nothing is made of it
	g := modulo(limb.Of(91), 16, 9)
	d := api.Deal{Dealer: 1, Commits: list(16)}
	count := map[bool]int{}
	for n := range 40 {
		x := []byte{byte(n)}
		base, _ := grp.Member(g, x)
		is := grp.Is(g, base)
		count[is]++
		s := api.Share{Node: 1, S: limb.Of(1)}
		p, e := prf.Eval(g, x, s)
		w, f := prf.Value(g, x, limb.Of(7))
		if is {
			if p.U != base || e != api.OK || w != value(g, x, limb.Of(7)) || f != api.OK || prf.Check(g, d, x, p) != api.OK {
				t.Errorf("%d: %v, error %d; %v, error %d", n, p, e, w, f)
			}
			continue
		}
		if p != (api.Partial{}) || e != api.ErrGroup || w != (api.Nat{}) || f != api.ErrGroup {
			t.Errorf("%d: %v, error %d; %v, error %d", n, p, e, w, f)
		}
		one := api.Partial{Node: 1, U: limb.Of(1)}
		refusal{"no member's proof", g, d, x, []api.Partial{one}, api.ErrProof}.check(t)
		refusal{"no member's proof", g, d, x, []api.Partial{one}, api.OK}.right(t)
	}
	if count[true] == 0 || count[false] == 0 {
		t.Errorf("%v", count)
	}
}

func TestArgumentsAreNotChangedAndAnswersAreOnesOwn(t *testing.T) { // rule 4
	g := params(t)[1]
	d := few(t, g)
	x, l, commits := slices.Clone(d.x), slices.Clone(d.parts), slices.Clone(d.deal.Commits)
	evaluated(t, g, x[:1:1], d.shares[0])
	w, _ := prf.Combine(g, d.deal, x, l[:5]...)
	k, _ := prf.Key(x, w)
	got, _ := prf.Right(g, d.deal, x, l[:5]...)
	got[0].Node, k[0] = 12, k[0]^1
	again, _ := prf.Right(g, d.deal, x, l[:5]...)
	if !slices.Equal(x, d.x) || !slices.Equal(l, d.parts) || !slices.Equal(commits, d.deal.Commits) || !slices.Equal(again, l[:5]) {
		t.Error("what was handed in is changed")
	}
	room := append(make([]byte, 0, 64), d.x...) // nothing is written behind them either
	evaluated(t, g, room, d.shares[0])
	if _, e := prf.Key(room, w); e != api.OK || !slices.Equal(room[:64], append(slices.Clone(d.x), make([]byte, 63)...)) {
		t.Error("what lies behind the bytes is changed")
	}
}
