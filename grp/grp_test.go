package grp_test

import (
	"math"
	"math/big"
	"math/rand/v2"
	"slices"
	"testing"

	"seneschal/api"
	"seneschal/cert"
	"seneschal/grp"
	"seneschal/limb"
)

var (
	top  = api.Nat{math.MaxUint64, math.MaxUint64, math.MaxUint64, math.MaxUint64}
	half = api.Nat{0, 0, 0, 1 << 63} // 2 to the 255
	one  = limb.Of(1)
)

// hex answers the number whose digits to the base 16 s has.
func hex(s string) api.Nat {
	n, ok := new(big.Int).SetString(s, 16)
	if !ok {
		panic(s)
	}
	return nat(n)
}

// big1 answers the number a, as the library has it.
func big1(a api.Nat) *big.Int { return new(big.Int).SetBytes(limb.Bytes(a)) }

// nat answers the number n, which must have room.
func nat(n *big.Int) api.Nat {
	a, e := limb.Read(n.Bytes())
	if e != api.OK {
		panic(n.String())
	}
	return a
}

func more(a api.Nat, n uint64) api.Nat {
	sum, _ := limb.Add(a, limb.Of(n))
	return sum
}

func less(a api.Nat, n uint64) api.Nat {
	rest, _ := limb.Sub(a, limb.Of(n))
	return rest
}

// modulo answers the group of p, an odd number, with G and H 4 and 9, which are squares.
func modulo(p api.Nat) api.Group {
	q := new(big.Int).Rsh(big1(p), 1)
	h := new(big.Int).Mod(big.NewInt(9), big1(p))
	return api.Group{P: p, Q: nat(q), G: limb.Of(4), H: nat(h)}
}

// params answers the group number k, which there must be.
func params(t *testing.T, k int) api.Group {
	t.Helper()
	g, e := grp.Params(k)
	if e != api.OK {
		t.Fatalf("Params(%d): error %d", k, e)
	}
	return g
}

// small answers groups of few members.
func small() []api.Group {
	var l []api.Group
	for _, p := range []uint64{7, 11, 23, 47} {
		l = append(l, modulo(limb.Of(p)))
	}
	return l
}

// composite answers groups whose P is odd, from 7 on, and no prime: they are used as they are.
func composite() []api.Group {
	var l []api.Group
	for _, p := range []uint64{9, 15, 21, 25, 27, 49, 91, 561} {
		l = append(l, modulo(limb.Of(p)))
	}
	return append(l, modulo(top))
}

// great answers the groups that there are, and those of safe primes around the edges of the parts.
func great(t *testing.T) []api.Group {
	t.Helper()
	return []api.Group{
		params(t, 0), params(t, 1),
		modulo(api.Nat{3103, 1}), modulo(api.Nat{12451, 0, 1}), modulo(api.Nat{15943, 0, 0, 1}), modulo(less(top, 36112)),
	}
}

// refused answers groups that there may not be: of each kind of fault, and at the edges.
func refused() map[string]api.Group {
	around := func(p, q api.Nat) api.Group { return api.Group{P: p, Q: q, G: limb.Of(4), H: limb.Of(9)} }
	of := func(p, q uint64) api.Group { return around(limb.Of(p), limb.Of(q)) }
	return map[string]api.Group{
		"noughts": {}, "P 1": of(1, 0), "P 2": of(2, 1), "P 3": of(3, 1), "P 5": of(5, 2), "P 6": of(6, 3), "P 6, and half of 5": of(6, 2),
		"P 8, and half of 9": of(8, 4), "P 8, and half of 7": of(8, 3), "P 22": of(22, 11), "P 24": of(24, 11),
		"Q nought": of(23, 0), "Q 10": of(23, 10), "Q 12": of(23, 12), "Q is P": of(23, 23), "turned round": of(11, 23),
		"a Q of two parts":               around(limb.Of(23), api.Nat{11, 1}),
		"a Q that comes round":           around(limb.Of(23), api.Nat{11, 0, 0, 1 << 63}),
		"the greatest numbers":           around(top, top),
		"the greatest, and 2 to the 255": around(top, half),
		"the greatest even one":          around(less(top, 1), less(half, 1)),
	}
}

// isMember is the chapter's word, reckoned by the library.
func isMember(g api.Group, x api.Nat) bool {
	n, p := big1(x), big1(g.P)
	return n.Sign() > 0 && n.Cmp(p) < 0 && new(big.Int).Exp(n, big1(g.Q), p).Cmp(big.NewInt(1)) == 0
}

// membersOf answers all members of a small group.
func membersOf(g api.Group) []api.Nat {
	var l []api.Nat
	for x := range g.P[0] {
		if isMember(g, limb.Of(x)) {
			l = append(l, limb.Of(x))
		}
	}
	return l
}

// outside answers numbers that are no members of any group here, and those that are members modulo P alone.
func outside(g api.Group) []api.Nat {
	l := []api.Nat{{}, g.P, top}
	for n := range uint64(20) {
		l = append(l, more(g.P, n), less(g.P, n), limb.Of(n))
	}
	return slices.DeleteFunc(l, func(x api.Nat) bool { return isMember(g, x) })
}

// some answers members and others of g: numbers near its ends, and drawn ones.
func some(g api.Group) []api.Nat {
	l := []api.Nat{top, half, {0, 1}, {0, 0, 1}, {0, 0, 0, 1}}
	for n := range uint64(12) {
		l = append(l, limb.Of(n), less(g.P, n), more(g.P, n), less(g.Q, n), more(g.Q, n))
	}
	for seed := range uint64(12) {
		n := new(big.Int).Mod(big1(drawn(seed)), big1(g.P))
		l = append(l, nat(n), nat(n.Mod(n.Mul(n, n), big1(g.P))))
	}
	return l
}

// someMembers answers those of some numbers that are members.
func someMembers(g api.Group) []api.Nat {
	return slices.DeleteFunc(some(g), func(x api.Nat) bool { return !isMember(g, x) })
}

// drawn answers a number, the same each time.
func drawn(seed uint64) api.Nat {
	r := rand.New(rand.NewPCG(seed, 9))
	return api.Nat{r.Uint64(), r.Uint64(), r.Uint64(), r.Uint64()}
}

// exponents answers some around the edges of g, and drawn ones.
func exponents(g api.Group) []api.Nat {
	l := []api.Nat{{}, one, limb.Of(2), limb.Of(3), g.Q, g.P, top, half}
	for n := range uint64(3) {
		l = append(l, less(g.Q, n), more(g.Q, n), more(g.P, n), less(g.P, n), less(top, n), drawn(n))
	}
	return l
}

// product is the product by the library.
func product(g api.Group, l ...api.Nat) api.Nat {
	all := big.NewInt(1)
	for _, x := range l {
		all.Mod(all.Mul(all, big1(x)), big1(g.P))
	}
	return nat(all)
}

// power is x to the e modulo Q, modulo P, by the library.
func power(g api.Group, x, e api.Nat) api.Nat {
	exponent := new(big.Int).Mod(big1(e), big1(g.Q))
	return nat(exponent.Exp(big1(x), exponent, big1(g.P)))
}

// is holds an answer against the one that it must be.
func is(t *testing.T, what string, got api.Nat, e api.Errno, want api.Nat) {
	t.Helper()
	if e != api.OK || got != want {
		t.Errorf("%s: %s, error %d, want %s", what, limb.Text(got), e, limb.Text(want))
	}
}

// isRefused sees to it that ErrGroup is told, and nothing else.
func isRefused(t *testing.T, what string, got api.Nat, e api.Errno) {
	t.Helper()
	if e != api.ErrGroup || got != (api.Nat{}) {
		t.Errorf("%s: %s, error %d, want error %d", what, limb.Text(got), e, api.ErrGroup)
	}
}

func mul(t *testing.T, g api.Group, l ...api.Nat) api.Nat {
	t.Helper()
	x, e := grp.Mul(g, l...)
	if e != api.OK {
		t.Fatalf("Mul(%v): error %d", l, e)
	}
	return x
}

func exp(t *testing.T, g api.Group, x, n api.Nat) api.Nat {
	t.Helper()
	y, e := grp.Exp(g, x, n)
	if e != api.OK {
		t.Fatalf("Exp(%v, %v): error %d", x, n, e)
	}
	return y
}

func commit(t *testing.T, g api.Group, s, u api.Nat) api.Nat {
	t.Helper()
	c, e := grp.Commit(g, s, u)
	if e != api.OK {
		t.Fatalf("Commit(%v, %v): error %d", s, u, e)
	}
	return c
}

func TestExample(t *testing.T) { // example 1
	g := params(t, 0)
	x, e := grp.Exp(g, limb.Of(4), api.Nat{})
	is(t, "4 to the 0", x, e, one)
	square := big.Jacobi(big.NewInt(3), big1(g.P)) == 1
	if grp.Is(g, limb.Of(3)) != square {
		t.Errorf("Is(3) is not %v", square)
	}
}

func TestParams(t *testing.T) { // 9.1
	want := []api.Group{
		{P: limb.Of(1162079267), Q: limb.Of(581039633), G: limb.Of(4), H: hex("cd5d7dc")},
		{
			P: hex("41f4600a97299a716ac336aae469e3514af0fae171206cbec2f0ebee989a79bb"),
			Q: hex("20fa30054b94cd38b5619b557234f1a8a5787d70b890365f617875f74c4d3cdd"),
			G: limb.Of(4),
			H: hex("1aa01d3a8bd409d2610011d8675b332a45bfab13f233e5c7cc2f76344dca8802"),
		},
	}
	for k := range want {
		g := params(t, k)
		if g != want[k] {
			t.Errorf("Params(%d): %v, want %v", k, g, want[k])
		}
		h, e := grp.Member(g, []byte{104})
		is(t, "H", h, e, g.H)
		steps, _ := cert.Chain(k)
		if e := cert.Group(g, steps...); e != api.OK {
			t.Errorf("the group %d is not right: error %d", k, e)
		}
	}
}

func TestThereAreNoOtherGroups(t *testing.T) { // 9.1
	for _, k := range []int{-1, 2, 3, 104, math.MinInt, math.MaxInt, 1 << 32, 1<<32 + 1} {
		if g, e := grp.Params(k); e != api.ErrArg || g != (api.Group{}) {
			t.Errorf("Params(%d): %v, error %d", k, g, e)
		}
	}
}

func TestCheckOfSmallNumbers(t *testing.T) { // 9.1
	for p := range uint64(70) {
		for q := range uint64(80) {
			want := api.ErrGroup
			if p >= 7 && p%2 == 1 && p == 2*q+1 {
				want = api.OK
			}
			for _, h := range []api.Nat{{}, limb.Of(9), top} { // what G and H are is not asked
				if e := grp.Check(api.Group{P: limb.Of(p), Q: limb.Of(q), G: h, H: h}); e != want {
					t.Errorf("Check of P %d, Q %d: error %d, want %d", p, q, e, want)
				}
			}
		}
	}
}

func TestCheckAtTheEdges(t *testing.T) { // 9.1
	for what, g := range refused() {
		if e := grp.Check(g); e != api.ErrGroup {
			t.Errorf("%s: error %d", what, e)
		}
	}
	for _, g := range slices.Concat(small(), composite(), great(t)) {
		if e := grp.Check(g); e != api.OK {
			t.Errorf("P %s: error %d", limb.Text(g.P), e)
		}
		for part := range g.Q { // P and Q count in all their parts
			p, q := g, g
			p.P[part] ^= 1 << 63
			q.Q[part] ^= 1 << 63
			if grp.Check(p) != api.ErrGroup || grp.Check(q) != api.ErrGroup {
				t.Errorf("P %s: part %d does not count", limb.Text(g.P), part)
			}
		}
	}
}

func TestNothingIsDoneInAGroupThatIsRefused(t *testing.T) { // 9.1, 9.2
	for what, g := range refused() {
		for n := range uint64(12) {
			x := limb.Of(n)
			if grp.Is(g, x) {
				t.Errorf("%s: %d is a member", what, n)
			}
			got, e := grp.Mul(g, x)
			isRefused(t, what+": Mul", got, e)
			got, e = grp.Exp(g, x, x)
			isRefused(t, what+": Exp", got, e)
			got, e = grp.Inverse(g, x)
			isRefused(t, what+": Inverse", got, e)
			got, e = grp.Commit(g, x, x)
			isRefused(t, what+": Commit", got, e)
			got, e = grp.Member(g, []byte{byte(n)})
			isRefused(t, what+": Member", got, e)
			got, e = grp.Scalar(g, []byte{byte(n)})
			isRefused(t, what+": Scalar", got, e)
		}
		got, e := grp.Mul(g)
		isRefused(t, what+": Mul of none", got, e)
		got, e = grp.Member(g, nil)
		isRefused(t, what+": Member of none", got, e)
		got, e = grp.Scalar(g, nil)
		isRefused(t, what+": Scalar of none", got, e)
	}
}

func TestIsOfAllSmallNumbers(t *testing.T) { // 9.1
	for _, g := range slices.Concat(small(), composite()[:8]) {
		for n := range 2*g.P[0] + 2 {
			for _, x := range []api.Nat{limb.Of(n), {n, 1}, {n, 0, 0, 1}} {
				if got, want := grp.Is(g, x), isMember(g, x); got != want {
					t.Errorf("modulo %d: Is(%v): %v", g.P[0], x, got)
				}
			}
		}
	}
	for _, g := range small() { // as many as Q, and just the squares
		if l := membersOf(g); len(l) != int(g.Q[0]) {
			t.Errorf("modulo %d: %d members", g.P[0], len(l))
		}
		for n := uint64(1); n < g.P[0]; n++ {
			if !grp.Is(g, limb.Of(n*n%g.P[0])) {
				t.Errorf("modulo %d: the square of %d is no member", g.P[0], n)
			}
		}
	}
}

func TestIsOfManyNumbers(t *testing.T) { // 9.1
	for _, g := range append(great(t), modulo(top)) {
		count := 0
		for _, x := range some(g) {
			want := isMember(g, x)
			if got := grp.Is(g, x); got != want {
				t.Errorf("modulo %s: Is(%s): %v", limb.Text(g.P), limb.Text(x), got)
			}
			if want {
				count++
			}
		}
		if g.P != top && count < 15 {
			t.Errorf("modulo %s: only %d members", limb.Text(g.P), count)
		}
	}
}

func TestMulOfAllSmallMembers(t *testing.T) { // 9.1, 9.3
	for _, g := range small() {
		l := membersOf(g)
		for _, x := range l {
			for _, y := range l {
				z, e := grp.Mul(g, x, y)
				is(t, "Mul of two", z, e, product(g, x, y))
				if !grp.Is(g, z) {
					t.Errorf("modulo %d: the product %d is no member", g.P[0], z[0])
				}
			}
		}
	}
}

func TestMulOfLists(t *testing.T) { // 9.1
	for _, g := range slices.Concat(small(), composite(), great(t)) {
		x, e := grp.Mul(g)
		is(t, "Mul of none", x, e, one)
		x, e = grp.Mul(g, []api.Nat{}...)
		is(t, "Mul of an empty list", x, e, one)
		l := someMembers(g)
		for n := range len(l) + 1 {
			kept := slices.Clone(l[:n])
			x, e := grp.Mul(g, l[:n]...)
			is(t, "Mul", x, e, product(g, kept...))
			if !slices.Equal(l[:n], kept) {
				t.Fatal("what was handed in is changed")
			}
		}
	}
}

func TestMulOfALongList(t *testing.T) { // 9.1: no bound is named
	g := params(t, 0)
	l := slices.Repeat([]api.Nat{g.G, g.H, one}, api.MaxItems)
	x, e := grp.Mul(g, l...)
	is(t, "Mul of many", x, e, product(g, l...))
	x, e = grp.Mul(g, append(l, g.P)...)
	isRefused(t, "Mul of many, the last of which is none", x, e)
}

func TestOthersAreRefused(t *testing.T) { // 9.1
	for _, g := range slices.Concat(small(), composite(), great(t)) {
		for _, x := range outside(g) {
			if grp.Is(g, x) {
				t.Errorf("modulo %s: %s is a member", limb.Text(g.P), limb.Text(x))
			}
			for _, l := range [][]api.Nat{{x}, {x, one}, {one, x}, {one, one, x}, {one, x, one}, {x, x}} {
				got, e := grp.Mul(g, l...)
				isRefused(t, "Mul", got, e)
			}
			for _, n := range []api.Nat{{}, one, limb.Of(2), g.Q, top} { // its square may be a member, its power to the 0 is 1
				got, e := grp.Exp(g, x, n)
				isRefused(t, "Exp", got, e)
			}
			got, e := grp.Inverse(g, x)
			isRefused(t, "Inverse", got, e)
		}
	}
}

func TestExpOfAllSmallMembers(t *testing.T) { // 9.1, 9.3
	for _, g := range append(small(), composite()[:6]...) {
		for _, x := range membersOf(g) {
			for n := range 4 * g.Q[0] {
				y, e := grp.Exp(g, x, limb.Of(n))
				is(t, "Exp", y, e, power(g, x, limb.Of(n)))
				again, e := grp.Exp(g, x, more(g.Q, n))
				is(t, "Exp to Q more", again, e, y)
				if !grp.Is(g, y) {
					t.Errorf("modulo %d: the power %d is no member", g.P[0], y[0])
				}
			}
		}
	}
}

func TestExpOfManyMembers(t *testing.T) { // 9.1, 9.3
	for _, g := range append(great(t), modulo(top)) {
		for _, x := range someMembers(g) {
			for _, n := range exponents(g) {
				y, e := grp.Exp(g, x, n)
				is(t, "Exp", y, e, power(g, x, n))
				if !grp.Is(g, y) {
					t.Errorf("modulo %s: the power %s is no member", limb.Text(g.P), limb.Text(y))
				}
			}
			y, e := grp.Exp(g, x, g.Q)
			is(t, "Exp to the Q", y, e, one)
		}
	}
}

func TestPowersOfSums(t *testing.T) { // 9.3
	for _, g := range append(great(t), small()...) {
		for _, x := range someMembers(g)[:3] {
			for seed := range uint64(10) {
				a, b := drawn(2*seed), drawn(2*seed+1)
				sum := new(big.Int).Add(big1(a), big1(b))
				whole := nat(sum.Mod(sum, big1(g.Q)))
				got, e := grp.Mul(g, exp(t, g, x, a), exp(t, g, x, b))
				is(t, "a power to a sum", got, e, exp(t, g, x, whole))
			}
		}
	}
}

func TestInverses(t *testing.T) { // 9.1, 9.3
	for _, g := range slices.Concat(small(), composite(), great(t)) {
		for _, x := range someMembers(g) {
			y, e := grp.Inverse(g, x)
			is(t, "Inverse", y, e, nat(new(big.Int).ModInverse(big1(x), big1(g.P))))
			is(t, "x and its inverse", mul(t, g, x, y), api.OK, one)
			if !grp.Is(g, y) || exp(t, g, x, less(g.Q, 1)) != y {
				t.Errorf("modulo %s: %s is not the inverse of %s", limb.Text(g.P), limb.Text(y), limb.Text(x))
			}
		}
		x, e := grp.Inverse(g, one)
		is(t, "Inverse(1)", x, e, one)
	}
}

func TestCommitOfAllSmallNumbers(t *testing.T) { // 9.2
	for _, g := range append(small(), composite()[0], composite()[1]) {
		for a := range g.P[0] + 5 {
			for b := range g.P[0] + 5 {
				g.G, g.H = limb.Of(a), limb.Of(b)
				for _, n := range [][2]uint64{{0, 0}, {0, 1}, {1, 0}, {1, 1}, {2, 5}, {g.Q[0], 1}, {g.Q[0] + 1, g.P[0]}} {
					c, e := grp.Commit(g, limb.Of(n[0]), limb.Of(n[1]))
					if !isMember(g, g.G) || !isMember(g, g.H) {
						isRefused(t, "Commit by others", c, e)
						continue
					}
					is(t, "Commit", c, e, product(g, power(g, g.G, limb.Of(n[0])), power(g, g.H, limb.Of(n[1]))))
				}
			}
		}
	}
}

func TestCommitOfManyNumbers(t *testing.T) { // 9.2
	for _, g := range append(great(t), small()...) {
		for _, s := range exponents(g) {
			for _, u := range exponents(g) {
				c, e := grp.Commit(g, s, u)
				is(t, "Commit", c, e, product(g, power(g, g.G, s), power(g, g.H, u)))
				if !grp.Is(g, c) {
					t.Errorf("modulo %s: the commitment %s is no member", limb.Text(g.P), limb.Text(c))
				}
			}
		}
	}
}

func TestCommitRefusesOthers(t *testing.T) { // 9.2
	for _, g := range append(great(t), small()...) {
		for _, x := range outside(g) {
			for _, turned := range []api.Group{{P: g.P, Q: g.Q, G: x, H: g.H}, {P: g.P, Q: g.Q, G: g.G, H: x}, {P: g.P, Q: g.Q, G: x, H: x}} {
				for _, n := range []api.Nat{{}, one, limb.Of(2), g.Q} {
					c, e := grp.Commit(turned, n, n)
					isRefused(t, "Commit", c, e)
				}
			}
		}
	}
}

func TestOnlyCommitAsksForGAndH(t *testing.T) { // 9.1, 9.2
	for _, g := range great(t) {
		bare := api.Group{P: g.P, Q: g.Q, H: g.P}
		x, e := grp.Mul(bare, g.G, g.H)
		is(t, "Mul", x, e, mul(t, g, g.G, g.H))
		x, e = grp.Exp(bare, g.G, g.H)
		is(t, "Exp", x, e, exp(t, g, g.G, g.H))
		x, e = grp.Inverse(bare, g.G)
		is(t, "G and its inverse", mul(t, bare, x, g.G), e, one)
		want, _ := grp.Member(g, []byte("x"))
		x, e = grp.Member(bare, []byte("x"))
		is(t, "Member", x, e, want)
		want, _ = grp.Scalar(g, []byte("x"))
		x, e = grp.Scalar(bare, []byte("x"))
		is(t, "Scalar", x, e, want)
		if !grp.Is(bare, g.G) || grp.Check(bare) != api.OK {
			t.Error("G and H are asked for")
		}
		x, e = grp.Commit(bare, one, one)
		isRefused(t, "Commit", x, e)
	}
}

func TestCommitmentsOfSums(t *testing.T) { // 9.4
	for _, g := range append(great(t), small()...) {
		q := big1(g.Q)
		for seed := range uint64(20) {
			a, b, c, d := drawn(4*seed), drawn(4*seed+1), drawn(4*seed+2), drawn(4*seed+3)
			s, u := new(big.Int).Add(big1(a), big1(c)), new(big.Int).Add(big1(b), big1(d))
			got, e := grp.Mul(g, commit(t, g, a, b), commit(t, g, c, d))
			is(t, "the product of commitments", got, e, commit(t, g, nat(s.Mod(s, q)), nat(u.Mod(u, q))))
		}
	}
}
