package joint_test

import (
	"math"
	"math/big"
	"math/rand/v2"
	"slices"
	"testing"

	"seneschal/api"
	"seneschal/grp"
	"seneschal/joint"
	"seneschal/limb"
	"seneschal/vss"
)

const most = api.MaxTol + 1 // coefficients of a polynomial

var top = api.Nat{math.MaxUint64, math.MaxUint64, math.MaxUint64, math.MaxUint64}

// big1 answers the number a, as the library has it.
func big1(a api.Nat) *big.Int { return new(big.Int).SetBytes(limb.Bytes(a)) }

// nat answers the number n, which must have room.
func nat(n *big.Int) api.Nat {
	a, e := limb.Read(n.Bytes())
	if e != api.OK {
		panic(n.String())
	}
	return a
}

// list answers numbers of these.
func list(l ...uint64) []api.Nat {
	out := make([]api.Nat, len(l))
	for i, n := range l {
		out[i] = limb.Of(n)
	}
	return out
}

func more(a, b api.Nat) api.Nat {
	sum, over := limb.Add(a, b)
	if over {
		panic("no room")
	}
	return sum
}

// drawn answers n numbers of any size; their parts are often those at the edges.
func drawn(r *rand.Rand, n int) []api.Nat {
	out := make([]api.Nat, n)
	for i := range out {
		for k := range out[i] {
			switch r.IntN(4) {
			case 0:
			case 1:
				out[i][k] = math.MaxUint64
			default:
				out[i][k] = r.Uint64()
			}
		}
	}
	return out
}

// modulo answers the group of p, an odd number, with these G and H.
func modulo(p, g, h uint64) api.Group {
	return api.Group{P: limb.Of(p), Q: limb.Of(p / 2), G: limb.Of(g), H: limb.Of(h)}
}

// params answers the groups that there are.
func params(t *testing.T) []api.Group {
	t.Helper()
	var l []api.Group
	for k := range 2 {
		g, e := grp.Params(k)
		if e != api.OK {
			t.Fatalf("Params(%d): error %d", k, e)
		}
		l = append(l, g)
	}
	return l
}

// groups answers those that there are, small ones (whose Q some nodes are beyond), and one whose P is no prime.
func groups(t *testing.T) []api.Group {
	t.Helper()
	return append(params(t), modulo(7, 2, 4), modulo(11, 4, 9), modulo(23, 4, 9), modulo(47, 4, 9), modulo(91, 16, 9))
}

// dealt is a dealing with what it was made of, and what each node was handed.
type dealt struct {
	deal   api.Deal
	s, u   []api.Nat
	shares []api.Share // of the nodes from 1 on
}

// deals answers the dealing of s and u, which there must be.
func deals(t *testing.T, g api.Group, dealer int, s, u []api.Nat) dealt {
	t.Helper()
	d, e := vss.Deal(g, dealer, s, u)
	if e != api.OK {
		t.Fatalf("Deal: error %d", e)
	}
	out := dealt{deal: d, s: s, u: u}
	for node := 1; node <= api.MaxNodes; node++ {
		x, e := vss.Share(g, node, s, u)
		if e != api.OK {
			t.Fatalf("Share of node %d: error %d", node, e)
		}
		out.shares = append(out.shares, x)
	}
	return out
}

// random answers a dealing of any numbers.
func random(t *testing.T, r *rand.Rand, g api.Group, size int) dealt {
	t.Helper()
	return deals(t, g, 1+r.IntN(api.MaxNodes), drawn(r, size), drawn(r, size))
}

// nothing answers a dealing of nought, of any other numbers.
func nothing(t *testing.T, r *rand.Rand, g api.Group, size int) dealt {
	t.Helper()
	s, u := drawn(r, size), drawn(r, size)
	s[0], u[0] = api.Nat{}, g.Q
	return deals(t, g, 1+r.IntN(api.MaxNodes), s, u)
}

// only answers the dealings alone.
func only(l ...dealt) []api.Deal {
	var out []api.Deal
	for _, d := range l {
		out = append(out, d.deal)
	}
	return out
}

// handed answers what all dealings handed to the node.
func handed(node int, l ...dealt) []api.Share {
	var out []api.Share
	for _, d := range l {
		out = append(out, d.shares[node-1])
	}
	return out
}

// turned answers the share with another S.
func turned(x api.Share) api.Share {
	x.S = more(x.S, limb.Of(1))
	return x
}

// product is the dealings together, by the library.
func product(g api.Group, l ...api.Deal) []api.Nat {
	var out []api.Nat
	for place := range most {
		all, there := big.NewInt(1), false
		for _, d := range l {
			if place < len(d.Commits) {
				there = true
				all.Mul(all, big1(d.Commits[place]))
			}
		}
		if there {
			out = append(out, nat(all.Mod(all, big1(g.P))))
		}
	}
	return out
}

// sum is the shares' sum modulo Q, by the library.
func sum(g api.Group, l ...api.Share) api.Share {
	s, u := new(big.Int), new(big.Int)
	for _, x := range l {
		s.Add(s, big1(x.S))
		u.Add(u, big1(x.T))
	}
	q := big1(g.Q)
	return api.Share{Node: l[0].Node, S: nat(s.Mod(s, q)), T: nat(u.Mod(u, q))}
}

func TestExample(t *testing.T) { // two dealings of 3 and 4
	for _, g := range params(t) {
		a, b := deals(t, g, 1, list(3, 2), list(5, 7)), deals(t, g, 2, list(4, 9), list(1, 8))
		var l []api.Share
		for _, node := range []int{2, 7} {
			x, e := joint.Shares(g, handed(node, a, b)...)
			if e != api.OK {
				t.Fatalf("Shares: error %d", e)
			}
			l = append(l, x)
		}
		secret, cover, e := vss.Open(g, l...)
		if secret != limb.Of(7) || cover != limb.Of(6) || e != api.OK {
			t.Errorf("added they open to %v, %v, error %d", secret, cover, e)
		}
	}
}

func TestDealingsTogether(t *testing.T) { // 12.1: of each number, of sizes that differ; the dealer is the first's
	r := rand.New(rand.NewPCG(12, 1))
	for _, g := range groups(t) {
		for n := 1; n <= api.MaxNodes; n++ {
			var l []dealt
			for range n {
				l = append(l, random(t, r, g, 1+r.IntN(most)))
			}
			d, e := joint.Sum(g, only(l...)...)
			if d.Dealer != l[0].deal.Dealer || !slices.Equal(d.Commits, product(g, only(l...)...)) || e != api.OK {
				t.Errorf("%d dealings modulo %s: %v, error %d", n, limb.Text(g.P), d, e)
			}
		}
	}
}

func TestWhatIsMissingIsOne(t *testing.T) { // 12.1: wherever the longer one stands
	g := modulo(23, 4, 9)
	short, long := api.Deal{Dealer: 3, Commits: list(4)}, api.Deal{Dealer: 16, Commits: list(6, 9, 2)}
	for _, c := range []struct {
		l    []api.Deal
		want api.Deal
	}{
		{[]api.Deal{short}, short}, {[]api.Deal{long}, long},
		{[]api.Deal{short, long}, api.Deal{Dealer: 3, Commits: list(1, 9, 2)}},
		{[]api.Deal{long, short}, api.Deal{Dealer: 16, Commits: list(1, 9, 2)}},
		{[]api.Deal{long, short, long}, api.Deal{Dealer: 16, Commits: list(6, 12, 4)}},
		{[]api.Deal{short, short}, api.Deal{Dealer: 3, Commits: list(16)}},
	} {
		d, e := joint.Sum(g, c.l...)
		if d.Dealer != c.want.Dealer || !slices.Equal(d.Commits, c.want.Commits) || e != api.OK {
			t.Errorf("%v: %v, error %d", c.l, d, e)
		}
	}
}

func TestSharesAdded(t *testing.T) { // 12.1: of each number and each node; numbers beyond Q count modulo Q
	r := rand.New(rand.NewPCG(12, 2))
	for _, g := range groups(t) {
		for n := 1; n <= api.MaxNodes; n++ {
			for node := 1; node <= api.MaxNodes; node++ {
				var l []api.Share
				for range n {
					two := drawn(r, 2)
					l = append(l, api.Share{Node: node, S: two[0], T: two[1]})
				}
				if x, e := joint.Shares(g, l...); x != sum(g, l...) || e != api.OK {
					t.Errorf("%d shares modulo %s: %v, error %d", n, limb.Text(g.Q), x, e)
				}
			}
		}
	}
}

func TestAllSharesOfTheGreatest(t *testing.T) { // 12.1: nothing is carried away
	for _, g := range params(t) {
		l := slices.Repeat([]api.Share{{Node: 5, S: top, T: top}}, api.MaxNodes)
		if x, e := joint.Shares(g, l...); x != sum(g, l...) || e != api.OK {
			t.Errorf("%v, error %d", x, e)
		}
	}
}

// handing is a way in which a node is handed shares, and whether it complains.
type handing struct {
	give      func(x api.Share) []api.Share
	complains bool
}

func handings() []handing {
	return []handing{
		{func(x api.Share) []api.Share { return []api.Share{x} }, false},
		{func(x api.Share) []api.Share { return []api.Share{turned(x)} }, true},
		{func(x api.Share) []api.Share { return nil }, true},
		{func(x api.Share) []api.Share { return []api.Share{x, turned(x)} }, false},
		{func(x api.Share) []api.Share { return []api.Share{turned(x), x} }, true},
		{func(x api.Share) []api.Share { return []api.Share{{Node: x.Node, S: x.T, T: x.S}} }, true},
	}
}

func TestComplaints(t *testing.T) { // 12.1: of each way to be handed shares, and each n; the first share of a node counts
	r := rand.New(rand.NewPCG(12, 3))
	for _, g := range params(t) {
		for n := 1; n <= api.MaxNodes; n++ {
			d := random(t, r, g, 1+r.IntN(most))
			var l [][]api.Share
			var want []int
			room := api.MaxNodes
			for node := 1; node <= n; node++ {
				way := handings()[r.IntN(6)]
				gives := way.give(d.shares[node-1])
				if len(gives) > room {
					gives, way.complains = nil, true
				}
				room -= len(gives)
				l = append(l, gives)
				if way.complains {
					want = append(want, node)
				}
			}
			r.Shuffle(len(l), func(i, j int) { l[i], l[j] = l[j], l[i] })
			got, e := joint.Complaints(g, d.deal, n, slices.Concat(l...)...)
			if !slices.Equal(got, want) || e != api.OK {
				t.Errorf("%d nodes: %v, error %d, want %v", n, got, e, want)
			}
		}
	}
}

func TestComplaintsOfNodesUpToN(t *testing.T) { // 12.1: shares of others are not looked at, whosoever they are
	g := params(t)[0]
	d := deals(t, g, 1, list(3, 2), list(5, 7))
	for _, c := range []struct {
		n    int
		l    []api.Share
		want []int
	}{
		{1, nil, []int{1}}, {4, []api.Share{}, []int{1, 2, 3, 4}}, {1, d.shares, nil}, {16, d.shares, nil},
		{16, d.shares[1:15], []int{1, 16}}, {3, d.shares[3:], []int{1, 2, 3}},
		{2, []api.Share{{Node: 0}, {Node: -1}, {Node: 17}, {Node: math.MinInt}, {Node: math.MaxInt}, d.shares[1]}, []int{1}},
		{3, []api.Share{turned(d.shares[3]), d.shares[2], d.shares[0], d.shares[1]}, nil},
		{2, []api.Share{{Node: 2, S: d.shares[0].S, T: d.shares[0].T}, d.shares[0]}, []int{2}},
		{2, []api.Share{{Node: 1, S: more(d.shares[0].S, g.Q), T: d.shares[0].T}, d.shares[1]}, nil},
	} {
		if got, e := joint.Complaints(g, d.deal, c.n, c.l...); !slices.Equal(got, c.want) || e != api.OK {
			t.Errorf("%d nodes, %v: %v, error %d, want %v", c.n, c.l, got, e, c.want)
		}
	}
}

func TestNoShareIsRightWithoutMembers(t *testing.T) { // 12.1: G and H are not asked for, but then all complain
	g := params(t)[0]
	d := deals(t, g, 1, list(3, 2), list(5, 7))
	for _, h := range noBases(t, g) {
		if got, e := joint.Complaints(h, d.deal, 3, d.shares...); !slices.Equal(got, []int{1, 2, 3}) || e != api.OK {
			t.Errorf("complaints: %v, error %d", got, e)
		}
		if got, e := joint.Qualified(h, 4, 1, only(d), [][]api.Share{d.shares}); len(got) != 0 || e != api.OK {
			t.Errorf("qualified: %v, error %d", got, e)
		}
		if x, e := joint.Sum(h, d.deal); !slices.Equal(x.Commits, d.deal.Commits) || e != api.OK {
			t.Errorf("together: %v, error %d", x, e)
		}
		if x, e := joint.Shares(h, d.shares[3]); x != d.shares[3] || e != api.OK {
			t.Errorf("added: %v, error %d", x, e)
		}
		if x, e := joint.Recover(h, 4, 1, d.shares[:2]...); x != d.shares[3] || e != api.OK {
			t.Errorf("recovered: %v, error %d", x, e)
		}
	}
}

func TestDealingsQualify(t *testing.T) { // 12.2: with t complaints, whoever complains, and not with one more
	r := rand.New(rand.NewPCG(12, 4))
	g := params(t)[0]
	for bound := range api.MaxTol + 1 {
		for n := 3*bound + 1; n <= api.MaxNodes; n++ {
			d := random(t, r, g, bound+1)
			var all []api.Deal
			var given [][]api.Share
			var want []int
			for i, few := range []int{bound + 1, bound, 0, n, bound - 1} {
				few = max(few, 0)
				l := slices.Clone(d.shares[:n])
				r.Shuffle(n, func(i, j int) { l[i], l[j] = l[j], l[i] })
				lost := r.IntN(few + 1)
				for k := lost; k < few; k++ {
					l[k] = turned(l[k])
				}
				all, given = append(all, d.deal), append(given, l[lost:])
				if few <= bound {
					want = append(want, i)
				}
			}
			got, e := joint.Qualified(g, n, bound, all, given)
			if !slices.Equal(got, want) || e != api.OK {
				t.Errorf("%d nodes, bound %d: %v, error %d, want %v", n, bound, got, e, want)
			}
		}
	}
}

func TestQualifyingNeedsAsManyCommitmentsAndADealing(t *testing.T) { // 12.2: what does not qualify is passed over
	r := rand.New(rand.NewPCG(12, 5))
	for _, g := range params(t) {
		for bound := range api.MaxTol + 1 {
			var l []dealt
			for size := 1; size <= most; size++ {
				l = append(l, random(t, r, g, size))
			}
			right := l[bound]
			for _, no := range noDeals(right.deal, g)[:9] { // by their dealers
				l = append(l, dealt{deal: no, shares: right.shares})
			}
			l = append(l, right)
			var given [][]api.Share
			for _, d := range l {
				given = append(given, d.shares)
			}
			got, e := joint.Qualified(g, api.MaxNodes, bound, only(l...), given)
			if !slices.Equal(got, []int{bound, len(l) - 1}) || e != api.OK {
				t.Errorf("bound %d: %v, error %d", bound, got, e)
			}
		}
	}
}

func TestCommitmentsThatAreNoMembersDoNotQualify(t *testing.T) { // 12.2: nobody would be heard about what is no dealing
	g := params(t)[0]
	d := deals(t, g, 1, list(3, 2), list(5, 7))
	for _, no := range noDeals(d.deal, g) {
		got, e := joint.Qualified(g, 4, 1, []api.Deal{no, d.deal}, [][]api.Share{d.shares, d.shares})
		if !slices.Equal(got, []int{1}) || e != api.OK {
			t.Errorf("%v: %v, error %d", no, got, e)
		}
	}
}

func TestEachDealingIsHeldAgainstItsOwnList(t *testing.T) { // 12.2
	r := rand.New(rand.NewPCG(12, 6))
	g := params(t)[1]
	a, b := random(t, r, g, 2), random(t, r, g, 2)
	for _, c := range []struct {
		deals []api.Deal
		given [][]api.Share
		want  []int
	}{
		{nil, nil, nil}, {[]api.Deal{}, nil, nil},
		{only(a, b), [][]api.Share{a.shares, b.shares}, []int{0, 1}}, {only(a, b), [][]api.Share{b.shares, a.shares}, nil},
		{only(b, a), [][]api.Share{a.shares, a.shares}, []int{1}}, {only(a, b), [][]api.Share{nil, b.shares[1:4]}, []int{1}},
		{only(a, a), [][]api.Share{a.shares[:2], a.shares[:3]}, []int{1}},
		{only(a), [][]api.Share{slices.Concat([]api.Share{turned(a.shares[0]), turned(a.shares[1])}, a.shares)}, nil},
		{only(a), [][]api.Share{slices.Concat([]api.Share{turned(a.shares[0])}, a.shares)}, []int{0}}, // more than MaxNodes shares
		{only(a), [][]api.Share{slices.Concat(slices.Repeat([]api.Share{{Node: 9}}, 300), a.shares)}, []int{0}},
	} {
		got, e := joint.Qualified(g, 4, 1, c.deals, c.given)
		if !slices.Equal(got, c.want) || e != api.OK {
			t.Errorf("%d lists: %v, error %d, want %v", len(c.given), got, e, c.want)
		}
	}
}

func TestAsManyDealingsAsMayBeQualify(t *testing.T) { // 12.2
	g := modulo(47, 4, 9)
	d := deals(t, g, 1, list(3, 2), list(5, 7))
	got, e := joint.Qualified(g, 4, 1, slices.Repeat(only(d), api.MaxNodes), slices.Repeat([][]api.Share{d.shares}, api.MaxNodes))
	if len(got) != api.MaxNodes || got[15] != 15 || !slices.IsSorted(got) || e != api.OK {
		t.Errorf("%v, error %d", got, e)
	}
}

func TestRefresh(t *testing.T) { // 12.3: d, and up to 15 others, together; d may be any dealing
	r := rand.New(rand.NewPCG(12, 7))
	for _, g := range groups(t) {
		for n := range api.MaxNodes {
			l := []dealt{random(t, r, g, 1+r.IntN(most))}
			for range n {
				l = append(l, nothing(t, r, g, 1+r.IntN(most)))
			}
			d, e := joint.Refresh(g, l[0].deal, only(l[1:]...)...)
			if d.Dealer != l[0].deal.Dealer || !slices.Equal(d.Commits, product(g, only(l...)...)) || e != api.OK {
				t.Errorf("by %d others modulo %s: %v, error %d", n, limb.Text(g.P), d, e)
			}
		}
		z := nothing(t, r, g, 2)
		if d, e := joint.Refresh(g, z.deal, z.deal); !vss.Nought(d) || e != api.OK {
			t.Errorf("nought, refreshed: %v, error %d", d, e)
		}
	}
}

func TestTogetherSharesAreRight(t *testing.T) { // 12.4: at each node, of sizes that differ
	r := rand.New(rand.NewPCG(12, 8))
	for _, g := range groups(t) {
		for n := 1; n <= api.MaxNodes; n += 5 {
			var l []dealt
			for range n {
				l = append(l, random(t, r, g, 1+r.IntN(most)))
			}
			d, _ := joint.Sum(g, only(l...)...)
			for node := 1; node <= api.MaxNodes; node++ {
				x, _ := joint.Shares(g, handed(node, l...)...)
				if e := vss.Verify(g, d, x); e != api.OK {
					t.Errorf("%d dealings modulo %s, node %d: error %d", n, limb.Text(g.P), node, e)
				}
			}
		}
	}
}

func TestRefreshedSharesOpenToTheSame(t *testing.T) { // 12.5: epoch by epoch, and no share stays what it was
	r := rand.New(rand.NewPCG(12, 9))
	for _, g := range params(t) {
		for bound := 1; bound <= api.MaxTol; bound++ {
			first := random(t, r, g, bound+1)
			deal, shares := first.deal, slices.Clone(first.shares)
			secret, cover, _ := vss.Open(g, shares[:bound+1]...)
			for range 3 {
				l := []dealt{nothing(t, r, g, bound+1), nothing(t, r, g, bound+1)}
				next, e := joint.Refresh(g, deal, only(l...)...)
				if next.Commits[0] != deal.Commits[0] || e != api.OK {
					t.Fatalf("Refresh: %v, error %d", next, e)
				}
				for i, x := range shares {
					shares[i], _ = joint.Shares(g, append([]api.Share{x}, handed(i+1, l...)...)...)
					if vss.Verify(g, next, shares[i]) != api.OK || shares[i] == x || vss.Verify(g, next, x) != api.ErrShare {
						t.Errorf("node %d: %v is not the refreshed share", i+1, shares[i])
					}
				}
				deal = next
				a, b, _ := vss.Open(g, shares[15-bound:]...)
				if a != secret || b != cover {
					t.Errorf("bound %d: the secret is another: %v, %v", bound, a, b)
				}
			}
		}
	}
}

func TestRecoveredSharesAreTheVeryShares(t *testing.T) { // 12.3, 12.6: of each node, from any others in any order
	r := rand.New(rand.NewPCG(12, 10))
	for _, g := range append(params(t), modulo(47, 4, 9)) {
		for bound := range api.MaxTol + 1 {
			d := random(t, r, g, bound+1)
			for node := 1; node <= api.MaxNodes; node++ {
				l := slices.Delete(slices.Clone(d.shares), node-1, node)
				r.Shuffle(len(l), func(i, j int) { l[i], l[j] = l[j], l[i] })
				n := bound + 1 + r.IntN(len(l)-bound)
				x, e := joint.Recover(g, node, bound, l[:n]...)
				if x != d.shares[node-1] || vss.Verify(g, d.deal, x) != api.OK || e != api.OK {
					t.Errorf("node %d, bound %d, %d shares: %v, error %d", node, bound, n, x, e)
				}
			}
		}
	}
}

func TestTheFirstSharesAreRecoveredFrom(t *testing.T) { // 12.3: t and 1 of them, right or not; the node's own may be one
	g := params(t)[0]
	d := deals(t, g, 1, list(3, 2, 6), list(5, 7, 1))
	x := d.shares
	for _, c := range []struct {
		about string
		bound int
		l     []api.Share
		same  bool
	}{
		{"a wrong one behind", 2, []api.Share{x[0], x[15], x[5], turned(x[2])}, true},
		{"a wrong one ahead", 2, []api.Share{turned(x[2]), x[0], x[15], x[5]}, false},
		{"the last that counts is wrong", 2, []api.Share{x[0], x[15], turned(x[2]), x[5]}, false},
		{"too few by the dealing", 1, []api.Share{x[0], x[1], x[2], x[4]}, false},
		{"more than the dealing needs", 5, x[4:10], true},
		{"its own among them", 2, []api.Share{x[3], x[0], x[1]}, true},
		{"its own, and wrong ones", 2, []api.Share{x[3], turned(x[0]), turned(x[1])}, true},
		{"all of them", 2, x, true},
	} {
		got, e := joint.Recover(g, 4, c.bound, c.l...)
		if (got == x[3]) != c.same || got.Node != 4 || e != api.OK {
			t.Errorf("%s: %v, error %d", c.about, got, e)
		}
	}
}

func TestOneShareIsEverybodysAtBoundNought(t *testing.T) { // 12.3: what comes is below Q
	g := modulo(23, 4, 9)
	for node := 1; node <= api.MaxNodes; node++ {
		x, e := joint.Recover(g, node, 0, api.Share{Node: 9, S: limb.Of(15), T: limb.Of(22)}, api.Share{Node: 1})
		if want := (api.Share{Node: node, S: limb.Of(4)}); x != want || e != api.OK {
			t.Errorf("node %d: %v, error %d", node, x, e)
		}
	}
}

func TestArgumentsAreNotChangedAndAnswersAreOnesOwn(t *testing.T) { // rule 4
	r := rand.New(rand.NewPCG(12, 11))
	g := params(t)[0]
	a, z := random(t, r, g, 2), nothing(t, r, g, 2)
	dealsIn, sharesIn := make([]api.Deal, 2, 8), make([]api.Share, 3, 8)
	copy(dealsIn, only(z, z))
	copy(sharesIn, a.shares)
	commits := slices.Clone(a.deal.Commits)
	joint.Sum(g, dealsIn...)
	joint.Shares(g, sharesIn[:1]...)
	joint.Complaints(g, a.deal, 4, sharesIn...)
	joint.Qualified(g, 4, 1, dealsIn, [][]api.Share{sharesIn, sharesIn})
	joint.Recover(g, 4, 1, sharesIn...)
	one, _ := joint.Refresh(g, a.deal)
	two, _ := joint.Refresh(g, a.deal, dealsIn...)
	alone, _ := joint.Sum(g, a.deal)
	for _, d := range []api.Deal{one, two, alone} {
		d.Commits[0], d.Commits[1] = api.Nat{}, api.Nat{}
	}
	if !slices.Equal(a.deal.Commits, commits) || !slices.Equal(sharesIn, a.shares[:3]) {
		t.Errorf("what was handed in is changed: %v, %v", a.deal, sharesIn)
	}
	for _, d := range dealsIn {
		if d.Dealer != z.deal.Dealer || !slices.Equal(d.Commits, z.deal.Commits) {
			t.Errorf("what was handed in is changed: %v", d)
		}
	}
	if spare := dealsIn[:3][2]; spare.Commits != nil || spare.Dealer != 0 || sharesIn[:4][3] != (api.Share{}) {
		t.Error("the room behind what was handed in is written to")
	}
}
