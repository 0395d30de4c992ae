package mod_test

import (
	"math"
	"math/big"
	"math/rand/v2"
	"slices"
	"testing"

	"seneschal/api"
	"seneschal/limb"
	"seneschal/mod"
)

const max64 = math.MaxUint64

var top = api.Nat{max64, max64, max64, max64}

// bigOf answers the number of those parts, reckoned by the library.
func bigOf(parts []uint64) *big.Int {
	n := new(big.Int)
	for i := range parts {
		n.Lsh(n, 64)
		n.Or(n, new(big.Int).SetUint64(parts[len(parts)-1-i]))
	}
	return n
}

func big1(a api.Nat) *big.Int  { return bigOf(a[:]) }
func big2(w api.Wide) *big.Int { return bigOf(w[:]) }

// powerOf2 answers 2 to the n.
func powerOf2(n int) api.Nat {
	var a api.Nat
	a[n/64] = 1 << (n % 64)
	return a
}

// less answers a less n, n being a small number.
func less(a api.Nat, n uint64) api.Nat {
	rest, _ := limb.Sub(a, limb.Of(n))
	return rest
}

// parse answers the number whose text s is.
func parse(s string) api.Nat {
	a, e := limb.Parse(s)
	if e != api.OK {
		panic(s)
	}
	return a
}

// primes answers primes of different lengths; the last one is 2 to the 256 less 189.
func primes() []api.Nat {
	return []api.Nat{
		limb.Of(2), limb.Of(3), limb.Of(131101), limb.Of(1162079267), limb.Of(680851214425258127),
		less(powerOf2(127), 1),
		parse("41f4600a97299a716ac336aae469e3514af0fae171206cbec2f0ebee989a79bb"),
		less(api.Nat{}, 189),
	}
}

// drawn answers numbers of all lengths, the same ones each time.
func drawn(n int) []api.Nat {
	r := rand.New(rand.NewPCG(7, 8))
	l := make([]api.Nat, n)
	for i := range l {
		for j := range i%4 + 1 {
			l[i][j] = r.Uint64()
		}
	}
	return l
}

// moduli answers odd and even numbers from 1 on: small ones, those around powers of two, powers of two times odd ones, primes, and the greatest.
func moduli() []api.Nat {
	l := append(primes(), top, less(top, 1), less(top, 2), less(top, 3), limb.Of(1000))
	for i := range 12 {
		l = append(l, limb.Of(uint64(i+1)))
	}
	for _, i := range []int{31, 63, 64, 65, 127, 128, 191, 192, 193, 254, 255} {
		a := powerOf2(i)
		l = append(l, a, less(a, 1), less(a, 2))
	}
	for _, i := range []int{1, 63, 64, 100, 128, 200} {
		product := limb.Mul(powerOf2(i), less(powerOf2(256-i-1), 1))
		l = append(l, api.Nat(product[:4]))
	}
	for _, a := range drawn(12) {
		even := a
		even[0] &^= 15
		l = append(l, a, even)
	}
	return slices.DeleteFunc(l, func(m api.Nat) bool { return m == (api.Nat{}) })
}

// around answers numbers to be taken modulo m: below m, m itself, beyond it, and any.
func around(m api.Nat) []api.Nat {
	double, _ := limb.Add(m, m)
	next, _ := limb.Add(m, limb.Of(1))
	l := []api.Nat{{}, limb.Of(1), limb.Of(2), less(m, 2), less(m, 1), m, next, double, top, less(top, 1), powerOf2(255)}
	return append(l, drawn(8)...)
}

// checkNumber holds an answer that is no error against the library's.
func checkNumber(t *testing.T, what string, got api.Nat, e api.Errno, want *big.Int) {
	t.Helper()
	if big1(got).Cmp(want) != 0 || e != api.OK {
		t.Errorf("%s: %v, %v, want %x", what, got, e, want)
	}
}

// checkRefused sees to it that there is ErrMod, and nought beside it.
func checkRefused(t *testing.T, what string, got api.Nat, e api.Errno) {
	t.Helper()
	if got != (api.Nat{}) || e != api.ErrMod {
		t.Errorf("%s: %v, %v, want ErrMod", what, got, e)
	}
}

func TestReduceIsTheRemainder(t *testing.T) {
	wides := []api.Wide{{}, {1}, {max64, max64, max64, max64, max64, max64, max64, max64}}
	for _, a := range append(drawn(8), top, limb.Of(1), powerOf2(255)) {
		wides = append(wides, limb.Widen(a), limb.Mul(a, a), limb.Mul(a, top), api.Wide{4: a[0], 5: a[1], 6: a[2], 7: a[3]})
	}
	for _, m := range moduli() {
		for _, w := range append(slices.Clone(wides), limb.Widen(m), limb.Mul(m, m), limb.Mul(m, less(m, 1)), limb.Mul(m, top)) {
			got, e := mod.Reduce(w, m)
			checkNumber(t, "Reduce", got, e, new(big.Int).Mod(big2(w), big1(m)))
		}
	}
}

func TestAddSubMulAreModulo(t *testing.T) {
	for _, m := range moduli() {
		n := big1(m)
		for _, a := range around(m) {
			for _, b := range around(m) {
				x, y := big1(a), big1(b)
				got, e := mod.Add(a, b, m)
				checkNumber(t, "Add", got, e, new(big.Int).Mod(new(big.Int).Add(x, y), n))
				got, e = mod.Sub(a, b, m)
				checkNumber(t, "Sub", got, e, new(big.Int).Mod(new(big.Int).Sub(x, y), n))
				got, e = mod.Mul(a, b, m)
				checkNumber(t, "Mul", got, e, new(big.Int).Mod(new(big.Int).Mul(x, y), n))
			}
		}
	}
}

func TestSmallNumbersAllOfThem(t *testing.T) {
	n := limb.Of
	for m := uint64(1); m <= 24; m++ {
		for a := range uint64(50) {
			for b := range uint64(50) {
				sum, e1 := mod.Add(n(a), n(b), n(m))
				rest, e2 := mod.Sub(n(a), n(b), n(m))
				product, e3 := mod.Mul(n(a), n(b), n(m))
				if sum != n((a+b)%m) || rest != n((a+50*m-b)%m) || product != n(a*b%m) || e1 != 0 || e2 != 0 || e3 != 0 {
					t.Errorf("%d and %d modulo %d: %v, %v, %v; %v, %v, %v", a, b, m, sum, rest, product, e1, e2, e3)
				}
			}
		}
	}
}

func TestSumAndProductAreOfAll(t *testing.T) {
	many := drawn(300)
	for _, m := range moduli() {
		list := append(around(m), many[:8]...)
		for n := range len(list) + 1 {
			checkSumAndProduct(t, m, list[:n])
		}
	}
	checkSumAndProduct(t, primes()[6], many)
	checkSumAndProduct(t, top, slices.Repeat([]api.Nat{less(top, 1)}, 1000))
	checkSumAndProduct(t, less(top, 1), slices.Repeat([]api.Nat{top}, 257))
}

// checkSumAndProduct holds both calls against the library's, and sees to it that the list stays as it is.
func checkSumAndProduct(t *testing.T, m api.Nat, list []api.Nat) {
	t.Helper()
	before := slices.Clone(list)
	sum, product, n := new(big.Int), big.NewInt(1), big1(m)
	for _, a := range list {
		sum.Add(sum, big1(a))
		product.Mod(product.Mul(product, big1(a)), n)
	}
	got, e := mod.Sum(m, list...)
	checkNumber(t, "Sum", got, e, sum.Mod(sum, n))
	got, e = mod.Product(m, list...)
	checkNumber(t, "Product", got, e, product.Mod(product, n))
	if !slices.Equal(list, before) {
		t.Errorf("modulo %v: the list was changed", m)
	}
}

func TestSumAndProductOfNone(t *testing.T) {
	for _, list := range [][]api.Nat{nil, {}} {
		for _, m := range moduli() {
			one := limb.Of(1)
			if m == limb.Of(1) {
				one = api.Nat{}
			}
			if sum, e := mod.Sum(m, list...); sum != (api.Nat{}) || e != api.OK {
				t.Errorf("Sum of none modulo %v: %v, %v", m, sum, e)
			}
			if product, e := mod.Product(m, list...); product != one || e != api.OK {
				t.Errorf("Product of none modulo %v: %v, %v", m, product, e)
			}
		}
	}
}

func TestNothingIsModuloNought(t *testing.T) {
	nought := api.Nat{}
	for _, a := range around(limb.Of(10)) {
		for _, b := range around(limb.Of(10)) {
			got, e := mod.Reduce(limb.Mul(a, b), nought)
			checkRefused(t, "Reduce", got, e)
			got, e = mod.Add(a, b, nought)
			checkRefused(t, "Add", got, e)
			got, e = mod.Sub(a, b, nought)
			checkRefused(t, "Sub", got, e)
			got, e = mod.Mul(a, b, nought)
			checkRefused(t, "Mul", got, e)
			got, e = mod.Exp(a, b, nought)
			checkRefused(t, "Exp", got, e)
			got, e = mod.Sum(nought, a, b)
			checkRefused(t, "Sum", got, e)
			got, e = mod.Product(nought, a, b)
			checkRefused(t, "Product", got, e)
		}
		got, e := mod.Inverse(a, nought)
		checkRefused(t, "Inverse", got, e)
	}
	got, e := mod.Sum(nought)
	checkRefused(t, "Sum of none", got, e)
	got, e = mod.Product(nought)
	checkRefused(t, "Product of none", got, e)
}

// 2.3
func TestSubUndoesAdd(t *testing.T) {
	for _, m := range moduli() {
		for _, a := range around(m) {
			reduced, _ := mod.Reduce(limb.Widen(a), m)
			for _, b := range around(m) {
				sum, _ := mod.Add(a, b, m)
				if back, e := mod.Sub(sum, b, m); back != reduced || e != api.OK {
					t.Errorf("%v and %v, less the second, modulo %v: %v, %v", a, b, m, back, e)
				}
				rest, _ := mod.Sub(a, b, m)
				if back, e := mod.Add(rest, b, m); back != reduced || e != api.OK {
					t.Errorf("%v less %v, and the second, modulo %v: %v, %v", a, b, m, back, e)
				}
			}
		}
	}
}
