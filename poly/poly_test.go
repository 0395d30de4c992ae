package poly_test

import (
	"math"
	"math/big"
	"math/rand/v2"
	"slices"
	"testing"

	"seneschal/api"
	"seneschal/grp"
	"seneschal/limb"
	"seneschal/poly"
)

var top = api.Nat{math.MaxUint64, math.MaxUint64, math.MaxUint64, math.MaxUint64}

// big1 answers the number a, as the library has it.
func big1(a api.Nat) *big.Int { return new(big.Int).SetBytes(limb.Bytes(a)) }

// nat answers the number n, which must have room.
func nat(n *big.Int) api.Nat {
	a, e := limb.Read(n.Bytes())
	if e != api.OK {
		panic(n.String())
	}
	return a
}

// list answers numbers of these.
func list(l ...uint64) []api.Nat {
	out := make([]api.Nat, len(l))
	for i, n := range l {
		out[i] = limb.Of(n)
	}
	return out
}

// point answers the point of these.
func point(x, y uint64) poly.Point { return poly.Point{X: limb.Of(x), Y: limb.Of(y)} }

// drawn answers any number; its parts are often those at the edges.
func drawn(r *rand.Rand) api.Nat {
	var a api.Nat
	for i := range a {
		switch r.IntN(4) {
		case 0:
		case 1:
			a[i] = math.MaxUint64
		default:
			a[i] = r.Uint64()
		}
	}
	return a
}

// drawnList answers n such numbers.
func drawnList(r *rand.Rand, n int) []api.Nat {
	out := make([]api.Nat, n)
	for i := range out {
		out[i] = drawn(r)
	}
	return out
}

// primes answers great primes: the orders of the groups, and the greatest number below 2 to the 256 that is one.
func primes(t *testing.T) []api.Nat {
	t.Helper()
	var out []api.Nat
	for k := range 2 {
		g, e := grp.Params(k)
		if e != api.OK {
			t.Fatalf("group %d: error %d", k, e)
		}
		out = append(out, g.Q)
	}
	last, _ := limb.Sub(top, limb.Of(188))
	if !big1(last).ProbablyPrime(20) {
		t.Fatal("2 to the 256 less 189 is a prime")
	}
	return append(out, last)
}

// others answers moduli that are no primes, small and great.
func others() []api.Nat {
	return append(list(4, 6, 8, 9, 12, 15), top, api.Nat{0, 0, 1}, api.Nat{0, 0, 0, 1 << 63})
}

// valueAt is the chapter's word: the sum of the coefficients times the powers of x.
func valueAt(q api.Nat, l []api.Nat, x api.Nat) api.Nat {
	sum := new(big.Int)
	for i, a := range l {
		power := new(big.Int).Exp(big1(x), big.NewInt(int64(i)), big1(q))
		sum.Add(sum, power.Mul(power, big1(a)))
	}
	return nat(sum.Mod(sum, big1(q)))
}

// factorsAt is the chapter's word; nil where something has no inverse.
func factorsAt(q, at api.Nat, xs []api.Nat) []api.Nat {
	m := big1(q)
	var out []api.Nat
	for i, x := range xs {
		f := big.NewInt(1)
		for j, y := range xs {
			if i == j {
				continue
			}
			below := new(big.Int).Sub(big1(x), big1(y))
			below.Mod(below, m)
			if below.ModInverse(below, m) == nil {
				return nil
			}
			above := new(big.Int).Sub(big1(at), big1(y))
			f.Mul(f, above.Mul(above, below)).Mod(f, m)
		}
		out = append(out, nat(f))
	}
	return out
}

// comesTo is the chapter's word; ok: nothing lacks an inverse.
func comesTo(q, at api.Nat, l []poly.Point) (y api.Nat, ok bool) {
	fs := factorsAt(q, at, xsOf(l))
	sum := new(big.Int)
	for i, f := range fs {
		sum.Add(sum, new(big.Int).Mul(big1(f), big1(l[i].Y)))
	}
	return nat(sum.Mod(sum, big1(q))), fs != nil
}

func xsOf(l []poly.Point) []api.Nat {
	var out []api.Nat
	for _, p := range l {
		out = append(out, p.X)
	}
	return out
}

// tuples calls f with each list of n numbers below m; f must not keep it.
func tuples(m uint64, n int, f func(l []uint64)) {
	l := make([]uint64, n)
	for {
		f(l)
		i := 0
		for i < n && l[i] == m-1 {
			l[i] = 0
			i++
		}
		if i == n {
			return
		}
		l[i]++
	}
}

func TestExamples(t *testing.T) {
	q, l := limb.Of(11), list(3, 2)
	if y, e := poly.Eval(q, l, limb.Of(4)); y != limb.Of(0) || e != api.OK {
		t.Errorf("Eval: %v, error %d", y, e)
	}
	ps, e := poly.Points(q, l, 1, 2)
	if !slices.Equal(ps, []poly.Point{point(1, 5), point(2, 7)}) || e != api.OK {
		t.Fatalf("Points: %v, error %d", ps, e)
	}
	if y, e := poly.Combine(q, limb.Of(0), ps...); y != limb.Of(3) || e != api.OK {
		t.Errorf("Combine: %v, error %d", y, e)
	}
}

func checkEval(t *testing.T, q api.Nat, l []api.Nat, x api.Nat) {
	t.Helper()
	given := slices.Clone(l)
	y, e := poly.Eval(q, l, x)
	if want := valueAt(q, l, x); y != want || e != api.OK {
		t.Errorf("Eval(%v, %v, %v): %v, error %d, want %v", q, l, x, y, e, want)
	}
	if !slices.Equal(l, given) {
		t.Errorf("Eval changed its coefficients: %v, were %v", l, given)
	}
}

func TestValues(t *testing.T) { // 10.1
	for q := uint64(2); q <= 6; q++ {
		for n := 1; n <= 3; n++ {
			tuples(q+1, n, func(l []uint64) { // q counts as 0
				for x := range q + 2 {
					checkEval(t, limb.Of(q), list(l...), limb.Of(x))
				}
			})
		}
	}
	r := rand.New(rand.NewPCG(10, 1))
	for _, q := range append(primes(t), others()...) {
		for _, n := range []int{1, 2, 3, 4, 17, 255, 256} {
			l := drawnList(r, n)
			for _, x := range append(drawnList(r, 3), api.Nat{}, limb.Of(1), q, top) {
				checkEval(t, q, l, x)
			}
		}
	}
}

func TestPoints(t *testing.T) { // 10.1
	r := rand.New(rand.NewPCG(10, 2))
	for _, q := range append(append(primes(t), others()...), list(2, 3, 11)...) {
		l := drawnList(r, 1+r.IntN(5))
		xs := []int{1, 2, 0, 2, 11, 12, math.MaxInt32, math.MaxInt}
		given, asked := slices.Clone(l), slices.Clone(xs)
		ps, e := poly.Points(q, l, xs...)
		if len(ps) != len(xs) || e != api.OK {
			t.Fatalf("Points modulo %v: %d of them, error %d", q, len(ps), e)
		}
		for i, x := range asked {
			at := limb.Of(uint64(x))
			if want := (poly.Point{X: at, Y: valueAt(q, l, at)}); ps[i] != want {
				t.Errorf("the point of %v at %d modulo %v: %v, want %v", l, x, q, ps[i], want)
			}
		}
		if !slices.Equal(l, given) || !slices.Equal(xs, asked) {
			t.Errorf("Points changed what was handed in: %v and %v", l, xs)
		}
	}
	if ps, e := poly.Points(limb.Of(11), list(3, 2)); len(ps) != 0 || e != api.OK {
		t.Errorf("the points at none: %v, error %d", ps, e)
	}
	if ps, e := poly.Points(limb.Of(11), list(3, 2), make([]int, api.MaxItems)...); len(ps) != api.MaxItems || ps[api.MaxItems-1] != point(0, 3) || e != api.OK {
		t.Errorf("the points at MaxItems places: %d of them, error %d", len(ps), e)
	}
}

func TestSums(t *testing.T) { // 10.1
	r := rand.New(rand.NewPCG(10, 3))
	sizes := []int{1, 2, 3, 8, 256}
	for _, q := range append(append(primes(t), others()...), list(2, 3, 11)...) {
		for _, n := range sizes {
			for _, k := range sizes {
				a, b := drawnList(r, n), drawnList(r, k)
				givenA, givenB := slices.Clone(a), slices.Clone(b)
				want := make([]api.Nat, max(n, k))
				for i := range want {
					sum := new(big.Int)
					if i < n {
						sum.Add(sum, big1(a[i]))
					}
					if i < k {
						sum.Add(sum, big1(b[i]))
					}
					want[i] = nat(sum.Mod(sum, big1(q)))
				}
				got, e := poly.Add(q, a, b)
				if !slices.Equal(got, want) || e != api.OK {
					t.Errorf("the sum of %d and %d coefficients modulo %v: %v, error %d, want %v", n, k, q, got, e, want)
				}
				got[0][0]++ // is the caller's own
				if !slices.Equal(a, givenA) || !slices.Equal(b, givenB) {
					t.Errorf("Add changed what was handed in: %v and %v", a, b)
				}
			}
		}
	}
}

// checkFactors holds Factors and Combine of one list against the chapter's words.
func checkFactors(t *testing.T, q, at api.Nat, l []poly.Point) {
	t.Helper()
	given, xs := slices.Clone(l), xsOf(l)
	want := factorsAt(q, at, xs)
	wantE := api.OK
	if want == nil {
		wantE = api.ErrShare
	}
	fs, e := poly.Factors(q, at, xs...)
	if !slices.Equal(fs, want) || e != wantE {
		t.Errorf("Factors(%v, %v, %v): %v, error %d, want %v, error %d", q, at, xs, fs, e, want, wantE)
	}
	wantY, _ := comesTo(q, at, l)
	y, e := poly.Combine(q, at, l...)
	if y != wantY || e != wantE {
		t.Errorf("Combine(%v, %v, %v): %v, error %d, want %v, error %d", q, at, l, y, e, wantY, wantE)
	}
	if !slices.Equal(l, given) || !slices.Equal(xs, xsOf(given)) {
		t.Errorf("what was handed in was changed: %v and %v, were %v", l, xs, given)
	}
}

func TestFactorsOfFewSmallPoints(t *testing.T) { // 10.2, with two X that are the same, and those that have no inverse
	for q := uint64(2); q <= 9; q++ {
		for n := 1; n <= 3; n++ {
			tuples(q+2, n, func(xs []uint64) { // q and 1 more count as 0 and 1
				var l []poly.Point
				for i, x := range xs {
					l = append(l, point(x, 3*x+uint64(i)+1))
				}
				for at := range min(q+1, 4) {
					checkFactors(t, limb.Of(q), limb.Of(at), l)
				}
			})
		}
	}
}

func TestFactorsOfManyGreatPoints(t *testing.T) { // 10.2
	r := rand.New(rand.NewPCG(10, 4))
	for _, q := range append(primes(t), others()...) {
		for _, n := range []int{1, 2, 3, 7, 16} {
			var l []poly.Point
			for range n {
				l = append(l, poly.Point{X: drawn(r), Y: drawn(r)})
			}
			for _, at := range []api.Nat{{}, l[0].X, l[n-1].X, q, top, drawn(r)} {
				checkFactors(t, q, at, l)
			}
		}
	}
}

func TestFactorsAtTheMost(t *testing.T) { // 10.2, with MaxItems points
	q := primes(t)[1]
	r := rand.New(rand.NewPCG(10, 5))
	var l []poly.Point
	for i := range api.MaxItems {
		l = append(l, poly.Point{X: limb.Of(uint64(i)), Y: drawn(r)})
	}
	checkFactors(t, q, drawn(r), l)
	l[api.MaxItems-1].X = l[0].X
	checkFactors(t, q, drawn(r), l)
}

func TestXThatAreTheSame(t *testing.T) { // 10.2: modulo q, wherever they stand
	for _, q := range primes(t) {
		for _, n := range []int{2, 5} {
			for i := range n {
				for j := range i {
					var l []poly.Point
					for k := range n {
						l = append(l, point(uint64(k+1), 7))
					}
					for _, more := range []api.Nat{{}, q} {
						sum, over := limb.Add(l[j].X, more)
						if over {
							continue
						}
						l[i].X = sum
						if fs, e := poly.Factors(q, api.Nat{}, xsOf(l)...); fs != nil || e != api.ErrShare {
							t.Errorf("Factors at the same X %d and %d: %v, error %d", j, i, fs, e)
						}
						if y, e := poly.Combine(q, api.Nat{}, l...); y != (api.Nat{}) || e != api.ErrShare {
							t.Errorf("Combine at the same X %d and %d: %v, error %d", j, i, y, e)
						}
						for _, degree := range []int{0, 1, n - 1, n, 255} {
							if is, e := poly.Line(q, degree, l...); is || e != api.ErrShare {
								t.Errorf("Line of degree %d at the same X %d and %d: %v, error %d", degree, j, i, is, e)
							}
						}
					}
				}
			}
		}
	}
}

// onOne tells by trying all polynomials whether the points lie on one of that degree, at most.
func onOne(q uint64, degree int, l []poly.Point) bool {
	found := false
	tuples(q, degree+1, func(c []uint64) {
		found = found || all(l, func(p poly.Point) bool {
			return valueAt(limb.Of(q), list(c...), p.X)[0] == p.Y[0]%q
		})
	})
	return found
}

func all(l []poly.Point, f func(p poly.Point) bool) bool {
	return !slices.ContainsFunc(l, func(p poly.Point) bool { return !f(p) })
}

func TestLinesOfSmallPrimes(t *testing.T) { // 10.2
	for _, q := range []uint64{2, 3, 5} {
		for n := 1; n <= int(min(q, 4)); n++ {
			for degree := 0; degree <= 2; degree++ {
				tuples(min(q, 3), n, func(ys []uint64) {
					var l []poly.Point
					for i, y := range ys {
						// Both numbers count modulo q; the X run down, so that their order is not the places' own.
						l = append(l, point(2*q-1-uint64(i), y+q*uint64(i%2)))
					}
					is, e := poly.Line(limb.Of(q), degree, l...)
					if want := onOne(q, degree, l); is != want || e != api.OK {
						t.Errorf("Line(%d, %d, %v): %v, error %d, want %v", q, degree, l, is, e, want)
					}
				})
			}
		}
	}
}

func TestLinesOfGreatPrimes(t *testing.T) { // 10.2
	r := rand.New(rand.NewPCG(10, 6))
	for _, q := range primes(t) {
		for _, size := range []int{1, 2, 3, 6} { // coefficients
			c := drawnList(r, size)
			var l []poly.Point
			for i := range size + 3 {
				x := limb.Of(uint64(3*i + 1))
				l = append(l, poly.Point{X: x, Y: valueAt(q, c, x)})
			}
			for degree := range size + 4 {
				is, e := poly.Line(q, degree, l...)
				if want := degree >= size-1; is != want || e != api.OK {
					t.Errorf("%d points of %d coefficients modulo %v, degree %d: %v, error %d", len(l), size, q, degree, is, e)
				}
			}
			for i := range l { // each point alone is put beside its place
				given := slices.Clone(l)
				given[i].Y[0] ^= 1
				before := slices.Clone(given)
				if is, e := poly.Line(q, size-1, given...); is || e != api.OK {
					t.Errorf("point %d of %d is turned, modulo %v: %v, error %d", i, len(l), q, is, e)
				}
				if is, e := poly.Line(q, len(l)-1, given...); !is || e != api.OK {
					t.Errorf("as many coefficients as points modulo %v: %v, error %d", q, is, e)
				}
				if !slices.Equal(given, before) {
					t.Errorf("Line changed what was handed in")
				}
			}
		}
	}
}

func TestLinesModuloNoPrime(t *testing.T) { // 10.2: the first degree and 1 settle the polynomial, if their inverses are there
	for _, q := range []uint64{4, 6, 8, 9} {
		for n := 1; n <= 3; n++ {
			tuples(q, n, func(xs []uint64) {
				var l []poly.Point
				for i, x := range xs {
					l = append(l, point(x, 2*x+uint64(i/2)))
				}
				for degree := range 3 {
					checkLine(t, q, degree, l)
				}
			})
		}
	}
}

// checkLine holds Line against the chapter's words.
func checkLine(t *testing.T, q uint64, degree int, l []poly.Point) {
	t.Helper()
	k := min(degree+1, len(l))
	want, wantE := true, api.OK
	for _, p := range l {
		y, ok := comesTo(limb.Of(q), p.X, l[:k])
		if !ok {
			wantE = api.ErrShare
		}
		want = want && y[0] == p.Y[0]%q
	}
	xs := xsOf(l)
	for i, x := range xs {
		if slices.Contains(xs[:i], x) {
			wantE = api.ErrShare
		}
	}
	want = want && wantE == api.OK
	if is, e := poly.Line(limb.Of(q), degree, l...); is != want || e != wantE {
		t.Errorf("Line(%d, %d, %v): %v, error %d, want %v, error %d", q, degree, l, is, e, want, wantE)
	}
}

func TestLinesAtTheMost(t *testing.T) { // 10.2, with MaxItems points and each degree's edge
	q := primes(t)[1]
	r := rand.New(rand.NewPCG(10, 7))
	c := drawnList(r, 128)
	xs := make([]int, api.MaxItems)
	for i := range xs {
		xs[i] = i
	}
	l, _ := poly.Points(q, c, xs...)
	for degree, want := range map[int]bool{0: false, 126: false, 127: true, 128: true, 255: true} {
		if is, e := poly.Line(q, degree, l...); is != want || e != api.OK {
			t.Errorf("degree %d: %v, error %d, want %v", degree, is, e, want)
		}
	}
	l[255].Y[0] ^= 1
	for degree, want := range map[int]bool{127: false, 254: false, 255: true} {
		if is, e := poly.Line(q, degree, l...); is != want || e != api.OK {
			t.Errorf("degree %d, the last one turned: %v, error %d, want %v", degree, is, e, want)
		}
	}
}

func TestArgumentsThatMayNotBe(t *testing.T) { // 10.1, 10.2: ErrArg, ahead of ErrShare, with zero values
	few, none, many := list(3, 2), []api.Nat{}, make([]api.Nat, api.MaxItems+1)
	q, at := limb.Of(11), limb.Of(1)
	for _, c := range []struct {
		about string
		q     api.Nat
		l     []api.Nat
		xs    []int
	}{
		{"modulo 0", api.Nat{}, few, []int{1}}, {"modulo 1", limb.Of(1), few, []int{1}},
		{"nil", q, nil, []int{1}}, {"none", q, none, nil}, {"too many", q, many, nil}, {"all of it", api.Nat{}, many, []int{-1}},
	} {
		if y, e := poly.Eval(c.q, c.l, at); y != (api.Nat{}) || e != api.ErrArg {
			t.Errorf("Eval, %s: %v, error %d", c.about, y, e)
		}
		if ps, e := poly.Points(c.q, c.l, c.xs...); ps != nil || e != api.ErrArg {
			t.Errorf("Points, %s: %v, error %d", c.about, ps, e)
		}
		if sum, e := poly.Add(c.q, c.l, few); sum != nil || e != api.ErrArg {
			t.Errorf("Add, %s first: %v, error %d", c.about, sum, e)
		}
		if sum, e := poly.Add(c.q, few, c.l); sum != nil || e != api.ErrArg {
			t.Errorf("Add, %s behind: %v, error %d", c.about, sum, e)
		}
		if fs, e := poly.Factors(c.q, at, c.l...); fs != nil || e != api.ErrArg { // many are all the same X
			t.Errorf("Factors, %s: %v, error %d", c.about, fs, e)
		}
		l := make([]poly.Point, len(c.l))
		for i, x := range c.l {
			l[i].X = x
		}
		if y, e := poly.Combine(c.q, at, l...); y != (api.Nat{}) || e != api.ErrArg {
			t.Errorf("Combine, %s: %v, error %d", c.about, y, e)
		}
		for _, degree := range []int{0, 1, 255} {
			if is, e := poly.Line(c.q, degree, l...); is || e != api.ErrArg {
				t.Errorf("Line, %s: %v, error %d", c.about, is, e)
			}
		}
	}
}

func TestPlacesThatMayNotBe(t *testing.T) { // 10.1
	for _, xs := range [][]int{{-1}, {math.MinInt}, {1, 2, -3}, {-1, 0}, make([]int, api.MaxItems+1)} {
		if ps, e := poly.Points(limb.Of(11), list(3, 2), xs...); ps != nil || e != api.ErrArg {
			t.Errorf("Points at %v: %v, error %d", xs, ps, e)
		}
	}
}

func TestDegreesThatMayNotBe(t *testing.T) { // 10.2: ahead of X that are the same
	for _, degree := range []int{-1, math.MinInt, api.MaxItems, math.MaxInt} {
		for _, l := range [][]poly.Point{{point(1, 5)}, {point(1, 5), point(12, 5)}} {
			if is, e := poly.Line(limb.Of(11), degree, l...); is || e != api.ErrArg {
				t.Errorf("degree %d: %v, error %d", degree, is, e)
			}
		}
	}
	if is, e := poly.Line(limb.Of(11), api.MaxItems-1, point(1, 5)); !is || e != api.OK {
		t.Errorf("the greatest degree: %v, error %d", is, e)
	}
}

func TestSharedSecrets(t *testing.T) { // 10.3: any of them, in any order, at any place
	r := rand.New(rand.NewPCG(10, 8))
	for _, q := range append(primes(t), list(17, 257)...) {
		for size := 1; size <= 6; size++ {
			c := drawnList(r, size)
			ps, e := poly.Points(q, c, 1, 2, 3, 4, 5, 6, 7, 8, 9, 10, 11, 12, 13, 14, 15, 16)
			if e != api.OK {
				t.Fatalf("Points: error %d", e)
			}
			for range 5 {
				r.Shuffle(len(ps), func(i, j int) { ps[i], ps[j] = ps[j], ps[i] })
				for _, at := range []api.Nat{{}, limb.Of(5), drawn(r), top} {
					y, e := poly.Combine(q, at, ps[:size]...)
					if want, _ := poly.Eval(q, c, at); y != want || e != api.OK {
						t.Errorf("%d points modulo %v at %v: %v, error %d, want %v", size, q, at, y, e, want)
					}
				}
			}
		}
	}
}

func TestTooFewPointsTellNothing(t *testing.T) { // 10.3: one point fewer fits each secret that there is
	q := limb.Of(11)
	seen := map[api.Nat]bool{}
	for last := range uint64(11) {
		y, e := poly.Combine(q, api.Nat{}, point(1, 5), point(2, 7), point(3, last))
		if e != api.OK {
			t.Fatalf("error %d", e)
		}
		seen[y] = true
	}
	if len(seen) != 11 {
		t.Errorf("two points of three leave %d secrets of 11", len(seen))
	}
}

func TestFactorsComeToOne(t *testing.T) { // 10.4
	r := rand.New(rand.NewPCG(10, 9))
	for _, q := range append(primes(t), limb.Of(17)) {
		for n := 1; n <= 9; n++ {
			xs := make([]api.Nat, n)
			for i := range xs {
				xs[i] = limb.Of(uint64(i + 1))
			}
			fs, e := poly.Factors(q, drawn(r), xs...)
			sum := new(big.Int)
			for _, f := range fs {
				sum.Add(sum, big1(f))
			}
			if sum.Mod(sum, big1(q)).Cmp(big.NewInt(1)) != 0 || e != api.OK {
				t.Errorf("%d factors modulo %v come to %v, error %d", n, q, sum, e)
			}
		}
	}
}

func TestPointsOfSums(t *testing.T) { // 10.5
	r := rand.New(rand.NewPCG(10, 10))
	for _, q := range append(primes(t), others()...) {
		a, b := drawnList(r, 1+r.IntN(6)), drawnList(r, 1+r.IntN(6))
		sum, _ := poly.Add(q, a, b)
		xs := []int{0, 1, 2, 5, 16, math.MaxInt}
		of, e := poly.Points(q, sum, xs...)
		ofA, _ := poly.Points(q, a, xs...)
		ofB, _ := poly.Points(q, b, xs...)
		if len(of) != len(xs) || e != api.OK {
			t.Fatalf("Points: %d of them, error %d", len(of), e)
		}
		for i := range of {
			want := new(big.Int).Add(big1(ofA[i].Y), big1(ofB[i].Y))
			if of[i].X != ofA[i].X || of[i].Y != nat(want.Mod(want, big1(q))) {
				t.Errorf("at %d modulo %v: %v, want the sum of %v and %v", xs[i], q, of[i], ofA[i], ofB[i])
			}
		}
	}
}

func TestAnswersAreTheCallersOwn(t *testing.T) { // rule 4
	xs := list(1, 2)
	fs, _ := poly.Factors(limb.Of(11), api.Nat{}, xs...)
	fs[0][0]++
	again, _ := poly.Factors(limb.Of(11), api.Nat{}, xs...)
	if !slices.Equal(again, list(2, 10)) || !slices.Equal(xs, list(1, 2)) {
		t.Errorf("the factors: %v, of %v", again, xs)
	}
	a := list(3, 2)
	sum, _ := poly.Add(limb.Of(11), a, list(0))
	sum[1] = limb.Of(9)
	if !slices.Equal(a, list(3, 2)) {
		t.Errorf("a sum shares memory with what was handed in: %v", a)
	}
}
