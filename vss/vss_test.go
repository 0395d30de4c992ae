package vss_test

import (
	"math"
	"math/big"
	"math/rand/v2"
	"slices"
	"testing"

	"seneschal/api"
	"seneschal/grp"
	"seneschal/limb"
	"seneschal/vss"
)

const most = api.MaxTol + 1 // coefficients of a polynomial

var top = api.Nat{math.MaxUint64, math.MaxUint64, math.MaxUint64, math.MaxUint64}

// big1 answers the number a, as the library has it.
func big1(a api.Nat) *big.Int { return new(big.Int).SetBytes(limb.Bytes(a)) }

// nat answers the number n, which must have room.
func nat(n *big.Int) api.Nat {
	a, e := limb.Read(n.Bytes())
	if e != api.OK {
		panic(n.String())
	}
	return a
}

// list answers numbers of these.
func list(l ...uint64) []api.Nat {
	out := make([]api.Nat, len(l))
	for i, n := range l {
		out[i] = limb.Of(n)
	}
	return out
}

// repeated answers n times a.
func repeated(n int, a api.Nat) []api.Nat { return slices.Repeat([]api.Nat{a}, n) }

func more(a, b api.Nat) api.Nat {
	sum, over := limb.Add(a, b)
	if over {
		panic("no room")
	}
	return sum
}

// drawn answers n numbers of any size; their parts are often those at the edges.
func drawn(r *rand.Rand, n int) []api.Nat {
	out := make([]api.Nat, n)
	for i := range out {
		for k := range out[i] {
			switch r.IntN(4) {
			case 0:
			case 1:
				out[i][k] = math.MaxUint64
			default:
				out[i][k] = r.Uint64()
			}
		}
	}
	return out
}

// modulo answers the group of p, an odd number, with these G and H.
func modulo(p, g, h uint64) api.Group {
	return api.Group{P: limb.Of(p), Q: limb.Of(p / 2), G: limb.Of(g), H: limb.Of(h)}
}

// params answers the groups that there are.
func params(t *testing.T) []api.Group {
	t.Helper()
	var l []api.Group
	for k := range 2 {
		g, e := grp.Params(k)
		if e != api.OK {
			t.Fatalf("Params(%d): error %d", k, e)
		}
		l = append(l, g)
	}
	return l
}

// groups answers those that there are, small ones (whose Q some nodes are beyond), and one whose P is no prime.
func groups(t *testing.T) []api.Group {
	t.Helper()
	return append(params(t), modulo(7, 2, 4), modulo(11, 4, 9), modulo(23, 4, 9), modulo(47, 4, 9), modulo(91, 16, 9))
}

// noGroups answers what grp.Check refuses; the G and the H of each are squares.
func noGroups(g api.Group) []api.Group {
	twoQ, oddQ := g, g
	twoQ.P = more(g.Q, g.Q)
	oddQ.Q = more(g.Q, limb.Of(1))
	return []api.Group{{}, twoQ, oddQ, modulo(5, 4, 1), {P: top, Q: top, G: limb.Of(4), H: limb.Of(9)}}
}

// noBases answers groups whose G, or H, or both, are no members.
func noBases(t *testing.T, g api.Group) []api.Group {
	t.Helper()
	var l []api.Group
	less, _ := limb.Sub(g.P, limb.Of(1)) // P - 1 is no square modulo a safe prime
	for _, x := range []api.Nat{{}, less, g.P, more(g.P, limb.Of(1)), top} {
		if grp.Is(g, x) {
			t.Fatalf("%s is a member", limb.Text(x))
		}
		ofG, ofH, both := g, g, g
		ofG.G, ofH.H = x, x
		both.G, both.H = x, x
		l = append(l, ofG, ofH, both)
	}
	return l
}

// noNodes answers numbers of which none is a node's.
func noNodes() []int {
	return []int{0, -1, -2, api.MaxNodes + 1, api.MaxNodes + 2, math.MinInt, math.MaxInt, 1 << 32, 1<<32 + 1}
}

// value is the polynomial's value at the node, by the library.
func value(q api.Nat, l []api.Nat, node int) api.Nat {
	sum := new(big.Int)
	for i, c := range l {
		sum.Add(sum, new(big.Int).Mul(big1(c), power(node, i)))
	}
	return nat(sum.Mod(sum, big1(q)))
}

// power is the node's number to its place.
func power(node, place int) *big.Int {
	return new(big.Int).Exp(big.NewInt(int64(node)), big.NewInt(int64(place)), nil)
}

// commitment is G to the s times H to the t, by the library.
func commitment(g api.Group, s, t api.Nat) api.Nat {
	p := big1(g.P)
	out := new(big.Int).Exp(big1(g.G), big1(s), p)
	out.Mul(out, new(big.Int).Exp(big1(g.H), big1(t), p))
	return nat(out.Mod(out, p))
}

// commitmentAt is the commitment at a node, by the library.
func commitmentAt(g api.Group, commits []api.Nat, node int) api.Nat {
	p, out := big1(g.P), big.NewInt(1)
	for i, c := range commits {
		out.Mul(out, new(big.Int).Exp(big1(c), power(node, i), p))
		out.Mod(out, p)
	}
	return nat(out)
}

// dealt answers the dealing of s and t by node 1, which there must be.
func dealt(t *testing.T, g api.Group, s, u []api.Nat) api.Deal {
	t.Helper()
	d, e := vss.Deal(g, 1, s, u)
	if e != api.OK {
		t.Fatalf("Deal: error %d", e)
	}
	return d
}

// handed answers the shares of all nodes, which there must be.
func handed(t *testing.T, g api.Group, s, u []api.Nat) []api.Share {
	t.Helper()
	var l []api.Share
	for node := 1; node <= api.MaxNodes; node++ {
		x, e := vss.Share(g, node, s, u)
		if e != api.OK {
			t.Fatalf("Share of node %d: error %d", node, e)
		}
		l = append(l, x)
	}
	return l
}

func TestExample(t *testing.T) {
	s, u := list(3, 2), list(5, 7)
	for _, g := range params(t) {
		x, e := vss.Share(g, 2, s, u)
		if want := (api.Share{Node: 2, S: limb.Of(7), T: limb.Of(19)}); x != want || e != api.OK {
			t.Errorf("the share of node 2: %v, error %d, want %v", x, e, want)
		}
		if e := vss.Verify(g, dealt(t, g, s, u), x); e != api.OK {
			t.Errorf("it is not right: error %d", e)
		}
	}
}

func TestDealings(t *testing.T) { // 11.1: of each size, by each dealer, with coefficients beyond Q, too
	r := rand.New(rand.NewPCG(11, 1))
	for _, g := range groups(t) {
		for dealer := 1; dealer <= api.MaxNodes; dealer++ {
			size := 1 + dealer%most
			s, u := drawn(r, size), drawn(r, size)
			d, e := vss.Deal(g, dealer, s, u)
			if d.Dealer != dealer || len(d.Commits) != size || e != api.OK {
				t.Fatalf("%d coefficients, dealer %d: %v, error %d", size, dealer, d, e)
			}
			for i, c := range d.Commits {
				if want := commitment(g, s[i], u[i]); c != want {
					t.Errorf("commitment %d modulo %s: %s, want %s", i, limb.Text(g.P), limb.Text(c), limb.Text(want))
				}
			}
			if e := vss.Check(g, d); e != api.OK {
				t.Errorf("a dealing is refused: error %d", e)
			}
		}
	}
}

func TestShares(t *testing.T) { // 11.1: of each size and each node
	r := rand.New(rand.NewPCG(11, 2))
	for _, g := range groups(t) {
		for size := 1; size <= most; size++ {
			s, u := drawn(r, size), drawn(r, size)
			for i, x := range handed(t, g, s, u) {
				want := api.Share{Node: i + 1, S: value(g.Q, s, i+1), T: value(g.Q, u, i+1)}
				if x != want {
					t.Errorf("modulo %s, %d coefficients: %v, want %v", limb.Text(g.Q), size, x, want)
				}
			}
		}
	}
}

func TestCommitmentsAtNodes(t *testing.T) { // 11.1: of any members, whoever made them
	r := rand.New(rand.NewPCG(11, 3))
	for _, g := range groups(t) {
		for size := 1; size <= most; size++ {
			d := api.Deal{Dealer: 1 + r.IntN(api.MaxNodes)}
			for range size {
				member, _ := grp.Exp(g, g.G, drawn(r, 1)[0])
				d.Commits = append(d.Commits, member)
			}
			for node := 1; node <= api.MaxNodes; node++ {
				at, e := vss.At(g, d, node)
				if want := commitmentAt(g, d.Commits, node); at != want || e != api.OK {
					t.Errorf("modulo %s, %d of them at %d: %s, error %d, want %s", limb.Text(g.P), size, node, limb.Text(at), e, limb.Text(want))
				}
			}
		}
	}
}

func TestSharesAreRightOrNot(t *testing.T) { // 11.2: each pair of numbers, at each node, by dealings of a small group
	g := modulo(11, 4, 9)
	for _, commits := range [][]api.Nat{list(1), list(5), list(4, 9), list(1, 1, 3), list(3, 4, 5, 9, 1, 3)} {
		d := api.Deal{Dealer: 16, Commits: commits}
		for node := 1; node <= api.MaxNodes; node++ {
			for n := range uint64(36) {
				x := api.Share{Node: node, S: limb.Of(n % 6), T: limb.Of(n / 6)}
				want := api.OK
				if commitment(g, x.S, x.T) != commitmentAt(g, commits, node) {
					want = api.ErrShare
				}
				if e := vss.Verify(g, d, x); e != want {
					t.Errorf("%v by %v: error %d, want %d", x, commits, e, want)
				}
			}
		}
	}
}

func TestNought(t *testing.T) { // 11.2: the first commitment alone decides
	one := limb.Of(1)
	for _, c := range []struct {
		d    api.Deal
		want bool
	}{
		{api.Deal{}, false}, {api.Deal{Dealer: 1, Commits: []api.Nat{}}, false},
		{api.Deal{Commits: list(1)}, true}, {api.Deal{Dealer: -3, Commits: list(1)}, true}, {api.Deal{Dealer: 1, Commits: list(1, 0, 7)}, true},
		{api.Deal{Commits: repeated(most+1, one)}, true}, {api.Deal{Commits: repeated(api.MaxItems+1, one)}, true},
		{api.Deal{Dealer: 1, Commits: list(0)}, false}, {api.Deal{Dealer: 1, Commits: list(2, 1)}, false}, {api.Deal{Dealer: 1, Commits: list(0, 1, 1)}, false},
		{api.Deal{Dealer: 1, Commits: []api.Nat{{0, 1}}}, false}, {api.Deal{Dealer: 1, Commits: []api.Nat{{1, 1}}}, false},
		{api.Deal{Dealer: 1, Commits: []api.Nat{{1, 0, 0, 1}}}, false}, {api.Deal{Dealer: 1, Commits: []api.Nat{top}}, false},
	} {
		if is := vss.Nought(c.d); is != c.want {
			t.Errorf("%v: %v", c.d, is)
		}
	}
}

func TestDealingsOfNought(t *testing.T) { // 11.2: those whose constant coefficients are both nought modulo Q
	r := rand.New(rand.NewPCG(11, 4))
	for _, g := range params(t) {
		for _, c := range []struct {
			s, u api.Nat
			want bool
		}{
			{api.Nat{}, api.Nat{}, true}, {g.Q, api.Nat{}, true}, {g.P, g.Q, false}, {g.Q, more(g.Q, g.Q), true},
			{limb.Of(1), api.Nat{}, false}, {api.Nat{}, limb.Of(1), false},
		} {
			for size := 1; size <= most; size++ {
				s, u := drawn(r, size), drawn(r, size)
				s[0], u[0] = c.s, c.u
				if is := vss.Nought(dealt(t, g, s, u)); is != c.want {
					t.Errorf("%s and %s ahead: %v", limb.Text(c.s), limb.Text(c.u), is)
				}
			}
		}
	}
}

func TestDealtSharesAreRight(t *testing.T) { // 11.3, and numbers count modulo Q
	r := rand.New(rand.NewPCG(11, 5))
	for _, g := range groups(t) {
		for size := 1; size <= most; size++ {
			s, u := drawn(r, size), drawn(r, size)
			d := dealt(t, g, s, u)
			for _, x := range handed(t, g, s, u) {
				if e := vss.Verify(g, d, x); e != api.OK {
					t.Errorf("modulo %s, %d coefficients: %v: error %d", limb.Text(g.P), size, x, e)
				}
				x.S, x.T = more(x.S, g.Q), more(x.T, more(g.Q, g.Q))
				if e := vss.Verify(g, d, x); e != api.OK {
					t.Errorf("modulo %s, Q more: %v: error %d", limb.Text(g.P), x, e)
				}
			}
		}
	}
}

func TestTurnedShares(t *testing.T) { // 11.4
	r := rand.New(rand.NewPCG(11, 6))
	for _, g := range params(t) {
		for size := 1; size <= most; size++ {
			s, u := drawn(r, size), drawn(r, size)
			d := dealt(t, g, s, u)
			for _, x := range handed(t, g, s, u) {
				by := 1 + r.Uint64N(g.Q[0]-1)
				for _, turned := range []api.Share{
					{Node: x.Node, S: more(x.S, limb.Of(1)), T: x.T}, {Node: x.Node, S: x.S, T: more(x.T, limb.Of(1))},
					{Node: x.Node, S: more(x.S, limb.Of(by)), T: x.T}, {Node: x.Node, S: x.S, T: more(x.T, limb.Of(by))},
					{Node: x.Node, S: x.T, T: x.S}, {Node: x.Node},
				} {
					if e := vss.Verify(g, d, turned); e != api.ErrShare {
						t.Errorf("%v instead of %v: error %d", turned, x, e)
					}
				}
			}
		}
	}
}

func TestSharesAtOtherNodes(t *testing.T) { // 11.4: right just where the values there are the very same
	g := params(t)[0]
	less := func(n uint64) api.Nat { // Q - n
		out, _ := limb.Sub(g.Q, limb.Of(n))
		return out
	}
	for _, c := range []struct {
		about string
		s, u  []api.Nat
	}{
		{"constants", list(8), list(9)}, {"constants, with noughts", list(8, 0, 0), list(9, 0, 0)},
		{"lines", list(8, 1), list(9, 2)}, {"one constant, one line", list(8, 0), list(9, 2)},
		{"the same at 3 and at 5", []api.Nat{limb.Of(15), less(8), limb.Of(1)}, []api.Nat{limb.Of(31), less(16), limb.Of(2)}},
	} {
		d := dealt(t, g, c.s, c.u)
		all := handed(t, g, c.s, c.u)
		for _, x := range all {
			for _, there := range all {
				want := api.ErrShare
				if x.S == there.S && x.T == there.T {
					want = api.OK
				}
				if e := vss.Verify(g, d, api.Share{Node: there.Node, S: x.S, T: x.T}); e != want {
					t.Errorf("%s: the share of %d at %d: error %d, want %d", c.about, x.Node, there.Node, e, want)
				}
			}
		}
	}
	s, u := []api.Nat{limb.Of(15), less(8), limb.Of(1)}, []api.Nat{limb.Of(31), less(16), limb.Of(2)}
	x, _ := vss.Share(g, 3, s, u)
	if x.Node = 5; vss.Verify(g, dealt(t, g, s, u), x) != api.OK {
		t.Errorf("the share of 3 is not right at 5, whose values are the same")
	}
}

func TestSecrets(t *testing.T) { // 11.5: any of them, in any order; more than are needed, too
	r := rand.New(rand.NewPCG(11, 7))
	for _, g := range append(params(t), modulo(47, 4, 9)) {
		for size := 1; size <= most; size++ {
			s, u := drawn(r, size), drawn(r, size)
			d := dealt(t, g, s, u)
			all := handed(t, g, s, u)
			for n := size; n <= len(all); n++ {
				r.Shuffle(len(all), func(i, j int) { all[i], all[j] = all[j], all[i] })
				a, b, e := vss.Open(g, all[:n]...)
				if a != value(g.Q, s, 0) || b != value(g.Q, u, 0) || e != api.OK {
					t.Errorf("%d shares of %d coefficients: %v, %v, error %d", n, size, a, b, e)
				}
				if c, _ := grp.Commit(g, a, b); c != d.Commits[0] {
					t.Errorf("%d shares of %d coefficients: the first commitment is to others", n, size)
				}
			}
		}
	}
}

func TestTooFewSharesTellNothing(t *testing.T) { // 11.5: one fewer fits each secret that there is
	g := modulo(47, 4, 9)
	seen := map[[2]api.Nat]bool{}
	for n := range uint64(23) {
		a, b, e := vss.Open(g, api.Share{Node: 4, S: limb.Of(5), T: limb.Of(6)}, api.Share{Node: 9, S: limb.Of(n), T: limb.Of(2 * n)})
		if e != api.OK {
			t.Fatalf("error %d", e)
		}
		seen[[2]api.Nat{a, b}] = true
	}
	if len(seen) != 23 {
		t.Errorf("one share of two leaves %d secrets of 23", len(seen))
	}
}

func TestOpenTakesSharesAsTheyAre(t *testing.T) { // 11.2: right or not; what comes is below Q
	g := modulo(23, 4, 9)
	for _, c := range []struct {
		l    []api.Share
		a, b uint64
	}{
		{[]api.Share{{Node: 16, S: limb.Of(4), T: limb.Of(10)}}, 4, 10},
		{[]api.Share{{Node: 1, S: limb.Of(15), T: limb.Of(22)}}, 4, 0},
		{[]api.Share{{Node: 1, S: limb.Of(5), T: limb.Of(1)}, {Node: 2, S: limb.Of(7), T: limb.Of(0)}}, 3, 2},
		{[]api.Share{{Node: 2, S: limb.Of(18), T: limb.Of(11)}, {Node: 1, S: limb.Of(16), T: limb.Of(12)}}, 3, 2},
		{[]api.Share{{Node: 11, S: limb.Of(9), T: limb.Of(8)}, {Node: 1, S: limb.Of(5), T: limb.Of(7)}}, 9, 8}, // 11 is 0 modulo Q
	} {
		a, b, e := vss.Open(g, c.l...)
		if a != limb.Of(c.a) || b != limb.Of(c.b) || e != api.OK {
			t.Errorf("%v: %v, %v, error %d", c.l, a, b, e)
		}
	}
}
