package cert_test

import (
	"math"
	"math/big"
	"math/rand/v2"
	"slices"
	"testing"

	"seneschal/api"
	"seneschal/cert"
	"seneschal/limb"
)

const smallEnd = 1048576

var (
	top  = api.Nat{math.MaxUint64, math.MaxUint64, math.MaxUint64, math.MaxUint64}
	bigs = []*big.Int{big.NewInt(0), big.NewInt(1), big.NewInt(2), big.NewInt(3)}
)

// big1 answers the number a, as the library has it.
func big1(a api.Nat) *big.Int {
	n := new(big.Int)
	for i := range a {
		n.Lsh(n, 64)
		n.Or(n, new(big.Int).SetUint64(a[len(a)-1-i]))
	}
	return n
}

// nat answers the number n, which must have room.
func nat(n *big.Int) api.Nat {
	a, e := limb.Read(n.Bytes())
	if e != api.OK {
		panic(n.String())
	}
	return a
}

func less(a api.Nat, n uint64) api.Nat {
	rest, _ := limb.Sub(a, limb.Of(n))
	return rest
}

func step(n, f, a uint64) api.Cert {
	return api.Cert{N: limb.Of(n), F: limb.Of(f), A: limb.Of(a)}
}

// chain answers the certificate number k, which there must be.
func chain(t *testing.T, k int) []api.Cert {
	t.Helper()
	l, e := cert.Chain(k)
	if e != api.OK || len(l) == 0 {
		t.Fatalf("Chain(%d): %v, error %d", k, l, e)
	}
	return l
}

// isRight is the chapter's word for a step, clause by clause, reckoned by the library.
func isRight(c api.Cert) bool {
	n, f, a := big1(c.N), big1(c.F), big1(c.A)
	if n.Bit(0) == 0 || n.Cmp(bigs[3]) < 0 || f.Cmp(bigs[2]) < 0 {
		return false
	}
	lesser := new(big.Int).Sub(n, bigs[1])
	quotient, rest := new(big.Int).QuoRem(lesser, f, new(big.Int))
	if rest.Sign() != 0 || new(big.Int).Mul(f, f).Cmp(n) <= 0 {
		return false
	}
	if new(big.Int).Exp(a, lesser, n).Cmp(bigs[1]) != 0 {
		return false
	}
	part := new(big.Int).Exp(a, quotient, n)
	part.Sub(part, bigs[1]).Mod(part, n)
	return new(big.Int).GCD(nil, nil, part, n).Cmp(bigs[1]) == 0
}

func checkStep(t *testing.T, c api.Cert) {
	t.Helper()
	if got, want := cert.Step(c), isRight(c); got != want {
		t.Errorf("Step{%v, %v, %v}: %v, want %v", big1(c.N), big1(c.F), big1(c.A), got, want)
	}
}

func checkCheck(t *testing.T, what string, want api.Errno, l ...api.Cert) {
	t.Helper()
	n, e := cert.Check(l...)
	if e != want || e != api.OK && n != (api.Nat{}) {
		t.Errorf("%s: %v, error %d, want error %d", what, big1(n), e, want)
	}
}

// sieve tells of each number below end whether it is a prime.
func sieve(end int) []bool {
	prime := make([]bool, end)
	for i := 2; i < end; i++ {
		prime[i] = true
	}
	for i := 2; i*i < end; i++ {
		for j := i * i; j < end; j += i {
			prime[j] = false
		}
	}
	return prime
}

// 3.1
func TestSmallIsAPrimeBelowTheBound(t *testing.T) {
	for n, prime := range sieve(smallEnd + 5000) {
		if got, want := cert.Small(limb.Of(uint64(n))), prime && n < smallEnd; got != want {
			t.Fatalf("Small(%d): %v, want %v", n, got, want)
		}
	}
}

// 3.1
func TestSmallRefusesGreatNumbersWithSmallParts(t *testing.T) {
	for i := 1; i < 4; i++ {
		n := limb.Of(7)
		n[i] = 1
		if cert.Small(n) {
			t.Errorf("Small(%v): true", n)
		}
	}
	p, q, _ := cert.Numbers(1)
	for _, n := range []api.Nat{p, q, top, less(top, 188), limb.Of(math.MaxUint64 - 58), limb.Of(1 << 32)} {
		if cert.Small(n) {
			t.Errorf("Small(%v): true", n)
		}
	}
}

// 3.1, example 1
func TestStepsOfTheExample(t *testing.T) {
	if !cert.Step(step(7, 3, 2)) {
		t.Error("Step{7, 3, 2} is not right")
	}
	if cert.Step(step(9, 4, 2)) {
		t.Error("Step{9, 4, 2} is right")
	}
}

// 3.1
func TestStepOfAllSmallNumbers(t *testing.T) {
	for n := range uint64(48) {
		for f := range n + 3 {
			for a := range n + 3 {
				checkStep(t, step(n, f, a))
			}
		}
	}
}

// 3.1: of what is asked, each of these lacks as little as can be.
func TestStepThatLacksSomething(t *testing.T) {
	for _, x := range []struct {
		lacks string
		c     api.Cert
	}{
		{"an odd N", step(4, 3, 1)},
		{"an odd N", step(6, 5, 5)},
		{"an N from 3 on", step(1, 2, 1)},
		{"an F from 2 on", step(7, 1, 2)},
		{"an F that is not nought", step(7, 0, 2)},
		{"an F that divides", step(7, 4, 2)},
		{"a square greater than N", step(17, 4, 3)},
		{"a square greater than N", step(101, 10, 2)},
		{"a square greater than N", step(13, 3, 2)},
		{"a power that is 1", step(9, 8, 2)},
		{"a part whose divisor is 1: the power is 1 by then", step(7, 3, 6)},
		{"a part whose divisor is 1: they have 3 in common", step(15, 14, 4)},
		{"a witness", step(7, 3, 1)},
		{"a witness", step(7, 3, 0)},
		{"a witness", step(7, 3, 7)},
		{"all", step(0, 0, 0)},
	} {
		if isRight(x.c) || cert.Step(x.c) {
			t.Errorf("%v, which lacks %s, is right", x.c, x.lacks)
		}
	}
}

// 3.1
func TestStepAtItsEdges(t *testing.T) {
	for _, c := range []api.Cert{
		step(3, 2, 2),  // the least N, the least F
		step(43, 7, 2), // F times F is but a little greater
		step(9, 8, 8),  // F is no prime, so N need be none
		step(7, 3, 2+7*100),
		{N: limb.Of(7), F: limb.Of(3), A: less(top, 6)}, // 2 modulo 7
	} {
		if !isRight(c) || !cert.Step(c) {
			t.Errorf("%v is not right", c)
		}
	}
}

// 3.1: the quotient by F, and the square of F, at the greatest numbers.
func TestStepOfGreatNumbers(t *testing.T) {
	great := less(api.Nat{}, 189) // a prime
	numbers := []api.Nat{{}, limb.Of(1), limb.Of(2), limb.Of(3), {0, 1}, {0, 0, 1}, {1, 0, 1}, {0, 0, 0, 1}, great, less(great, 1), top, less(top, 1)}
	for _, k := range []int{0, 1} {
		for _, c := range chain(t, k) {
			numbers = append(numbers, c.N, c.F, less(c.N, 1))
		}
	}
	for _, n := range numbers {
		for _, f := range numbers {
			for _, a := range []api.Nat{{}, limb.Of(1), limb.Of(2), limb.Of(3), less(n, 1), n, top} {
				checkStep(t, api.Cert{N: n, F: f, A: a})
			}
		}
	}
}

// 3.1: of a prime just below 2 to the 256 that is 1 modulo many powers of two; the square of the least F that is right is 2 to the 256 itself.
func TestStepWhereTheSquareHasNoRoom(t *testing.T) {
	great := new(big.Int).Lsh(big.NewInt(65497), 240)
	great.Add(great, bigs[1])
	for i := range uint(256) {
		f := nat(new(big.Int).Lsh(bigs[1], i))
		for a := range uint64(12) {
			checkStep(t, api.Cert{N: nat(great), F: f, A: limb.Of(a)})
		}
		for _, n := range []uint64{3, 5, 17, 257, 12289, 65537} {
			checkStep(t, api.Cert{N: limb.Of(n), F: f, A: limb.Of(11)})
		}
		c := api.Cert{N: nat(great), F: f, A: limb.Of(5)}
		if want := i >= 128 && i <= 240; cert.Step(c) != want {
			t.Errorf("by 2 to the %d: %v", i, !want)
		}
	}
}

// grown answers a certificate that begins at the small prime f, with as many steps as have room, each reckoned by the library.
func grown(f int64) []api.Cert {
	var l []api.Cert
	prime := big.NewInt(f)
	for {
		c, ok := nextStep(prime)
		if !ok {
			return l
		}
		l = append(l, c)
		prime = big1(c.N)
	}
}

// nextStep answers the right step with the least N whose F is the prime f, if there is room for one.
func nextStep(f *big.Int) (api.Cert, bool) {
	for n := new(big.Int).Add(f, bigs[1]); n.BitLen() <= 256; n.Add(n, f) {
		if n.Bit(0) == 0 || !n.ProbablyPrime(20) {
			continue
		}
		for a := range uint64(50) {
			if c := (api.Cert{N: nat(n), F: nat(f), A: limb.Of(a)}); isRight(c) {
				return c, true
			}
		}
	}
	return api.Cert{}, false
}

// 3.1, 3.3
func TestCheckOfLongCertificates(t *testing.T) {
	for _, f := range []int64{2, 3, 131101, 1048573} {
		l := grown(f)
		if len(l) < 20 {
			t.Fatalf("from %d on there are but %d steps", f, len(l))
		}
		for n := 1; n <= len(l); n++ {
			if got, e := cert.Check(l[:n]...); e != api.OK || got != l[n-1].N {
				t.Errorf("%d steps from %d on: %v, error %d", n, f, got, e)
			}
		}
	}
}

// 3.1: all the numbers that one step can certify, and that two can.
func TestCheckOfAllSmallCertificates(t *testing.T) {
	const end = 64
	prime := sieve(end)
	var taken []api.Cert
	for n := range uint64(end) {
		for f := range uint64(end) {
			for a := range n {
				c := step(n, f, a)
				want := api.ErrCert
				if prime[f] && isRight(c) {
					want = api.OK
				}
				got, e := cert.Check(c)
				if e != want || e == api.OK && got != c.N || e != api.OK && got != (api.Nat{}) {
					t.Errorf("Check(%v): %v, error %d, want error %d", c, got, e, want)
				}
				if e == api.OK {
					taken = append(taken, c)
				}
			}
		}
	}
	for _, c := range taken {
		for _, d := range taken {
			got, e := cert.Check(c, d)
			if want := d.F == c.N; (e == api.OK) != want || want && got != d.N || !want && (e != api.ErrCert || got != api.Nat{}) {
				t.Errorf("Check(%v, %v): %v, error %d", c, d, got, e)
			}
		}
	}
}

// 3.1
func TestCheckRefusesStepsThatAreNoCertificate(t *testing.T) {
	l := chain(t, 1)
	checkCheck(t, "none", api.ErrCert)
	checkCheck(t, "an empty list", api.ErrCert, []api.Cert{}...)
	checkCheck(t, "the first left out", api.ErrCert, l[1:]...)
	checkCheck(t, "the last alone", api.ErrCert, l[len(l)-1])
	checkCheck(t, "one left out", api.ErrCert, slices.Delete(slices.Clone(l), 2, 3)...)
	checkCheck(t, "one twice", api.ErrCert, slices.Insert(slices.Clone(l), 2, l[2])...)
	checkCheck(t, "two certificates, one behind the other", api.ErrCert, append(chain(t, 0), l...)...)
	back := slices.Clone(l)
	slices.Reverse(back)
	checkCheck(t, "turned round", api.ErrCert, back...)
	checkCheck(t, "a first F that is no prime", api.ErrCert, step(9, 8, 8))
	checkCheck(t, "a first F that is no prime, under a prime", api.ErrCert, step(9, 8, 8), step(19, 9, 2))
	checkCheck(t, "a later F that is a small prime, and not the N ahead", api.ErrCert, step(7, 3, 2), step(11, 5, 2))
	checkCheck(t, "a step of noughts", api.ErrCert, api.Cert{})
}

// 3.1
func TestCheckRefusesEachNumberThatIsTurned(t *testing.T) {
	for _, k := range []int{0, 1} {
		l := chain(t, k)
		for i := range l {
			for _, turn := range []func(c *api.Cert){
				func(c *api.Cert) { c.N = less(c.N, 2) },
				func(c *api.Cert) { c.N[3] ^= 1 << 63 },
				func(c *api.Cert) { c.F = less(c.F, 2) },
				func(c *api.Cert) { c.F[3] ^= 1 << 63 },
				func(c *api.Cert) { c.F = limb.Of(2) },
				func(c *api.Cert) { c.A = limb.Of(1) },
				func(c *api.Cert) { c.A = api.Nat{} },
				func(c *api.Cert) { c.A = c.N },
				func(c *api.Cert) { *c = api.Cert{} },
			} {
				turned := slices.Clone(l)
				turn(&turned[i])
				checkCheck(t, "turned", api.ErrCert, turned...)
			}
		}
	}
}

// 3.1: a certificate of MaxItems steps would have no room, for each step at least doubles its number.
func TestCheckAtTheGreatestNumberOfSteps(t *testing.T) {
	l := grown(3)
	for n := len(l); n < api.MaxItems; n++ {
		l = append(l, l[n-1])
	}
	checkCheck(t, "MaxItems", api.ErrCert, l...)
	checkCheck(t, "MaxItems of noughts", api.ErrCert, make([]api.Cert, api.MaxItems)...)
	checkCheck(t, "MaxItems and 1", api.ErrLong, append(l, l[0])...)
	checkCheck(t, "MaxItems and 1 of noughts", api.ErrLong, make([]api.Cert, api.MaxItems+1)...)
	checkCheck(t, "very many", api.ErrLong, make([]api.Cert, 100*api.MaxItems)...)
}

// 3.3
func TestWhatIsCertifiedIsNoProduct(t *testing.T) {
	const end = 110
	prime := sieve(end)
	certified := map[uint64]bool{}
	for n := range uint64(end) {
		for f := range n {
			for a := range n {
				if got, e := cert.Check(step(n, f, a)); e == api.OK {
					certified[got[0]] = true
				}
			}
		}
	}
	for n := range certified {
		if !prime[n] {
			t.Errorf("%d is certified", n)
		}
	}
	if len(certified) < 12 {
		t.Errorf("but %d are certified", len(certified))
	}
}

// 3.4: squares, products of two primes, and numbers that pass for primes by many witnesses (those of Carmichael among them).
func TestStepOfAProductByASmallPrimeIsNotRight(t *testing.T) {
	prime := sieve(smallEnd)
	numbers := []uint64{341, 561, 645, 1105, 1387, 1729, 2047, 2465, 2821, 3277, 6601, 8911, 10585, 15841, 29341, 46657, 52633}
	for n := uint64(9); n < 400; n += 2 {
		if !prime[n] {
			numbers = append(numbers, n)
		}
	}
	for _, n := range numbers {
		for f := uint64(2); f < n; f++ {
			if !prime[f] || (n-1)%f != 0 {
				continue
			}
			for a := range min(n, 700) {
				if cert.Step(step(n, f, a)) {
					t.Errorf("Step{%d, %d, %d} is right", n, f, a)
				}
			}
		}
	}
}

// 3.4: N is a product whose neighbour a great enough small prime divides.
func TestStepOfAGreatProductIsNotRight(t *testing.T) {
	r := rand.New(rand.NewPCG(3, 4))
	const f = 1048573
	for range 200 {
		n := new(big.Int).SetUint64(f*2*(1+r.Uint64N(f/2)) + 1)
		if n.ProbablyPrime(20) {
			continue
		}
		for _, a := range []uint64{1, 2, 3, r.Uint64(), n.Uint64() - 1} {
			if cert.Step(step(n.Uint64(), f, a)) {
				t.Errorf("Step{%v, %d, %d} is right", n, f, a)
			}
		}
	}
}

// Rule 4
func TestStepsHandedInAreNotChanged(t *testing.T) {
	for _, k := range []int{0, 1} {
		l, again := chain(t, k), chain(t, k)
		for range 2 {
			first, e := cert.Check(l...)
			if e != api.OK || first != l[len(l)-1].N {
				t.Errorf("Check of chain %d: %v, error %d", k, first, e)
			}
			p, q, _ := cert.Numbers(k)
			cert.Group(api.Group{P: p, Q: q, G: limb.Of(4), H: limb.Of(9)}, l...)
			if !slices.Equal(l, again) {
				t.Errorf("chain %d was changed", k)
			}
		}
	}
}
