package mod_test

import (
	"math/big"
	"testing"

	"seneschal/api"
	"seneschal/limb"
	"seneschal/mod"
)

// exponents answers the edges, and some between them.
func exponents() []api.Nat {
	l := []api.Nat{{}, limb.Of(1), limb.Of(2), limb.Of(3), limb.Of(10), {max64}, {0, 1}, powerOf2(255), top, less(top, 1)}
	return append(l, drawn(4)[3])
}

// checkExp holds a power against the library's.
func checkExp(t *testing.T, a, e, m api.Nat) {
	t.Helper()
	got, errno := mod.Exp(a, e, m)
	want := new(big.Int).Exp(big1(a), big1(e), big1(m))
	if big1(got).Cmp(want) != 0 || errno != api.OK {
		t.Errorf("Exp(%v, %v, %v): %v, %v, want %x", a, e, m, got, errno, want)
	}
}

func TestExp(t *testing.T) {
	if got, e := mod.Exp(limb.Of(2), limb.Of(10), limb.Of(1000)); got != limb.Of(24) || e != api.OK {
		t.Errorf("Exp(2, 10, 1000): %v, %v", got, e)
	}
	for _, m := range moduli() {
		for _, a := range around(m) {
			for _, e := range exponents() {
				checkExp(t, a, e, m)
			}
		}
	}
}

func TestExpModuloEachPowerOfTwoAndItsMultiples(t *testing.T) {
	e := api.Nat{5, 0, 7}
	for i := range 256 {
		m := powerOf2(i)
		for _, a := range []api.Nat{limb.Of(2), limb.Of(3), less(top, 4), drawn(4)[3], m} {
			checkExp(t, a, e, m)
			if i < 254 {
				triple, _ := mod.Mul(m, limb.Of(3), top)
				checkExp(t, a, e, triple)
			}
		}
	}
}

func TestExpSmallNumbersAllOfThem(t *testing.T) {
	for m := uint64(1); m <= 40; m++ {
		for a := range uint64(85) {
			want := 1 % m
			for e := range uint64(20) {
				if got, errno := mod.Exp(limb.Of(a), limb.Of(e), limb.Of(m)); got != limb.Of(want) || errno != api.OK {
					t.Errorf("Exp(%d, %d, %d): %v, %v, want %d", a, e, m, got, errno, want)
				}
				want = want * a % m
			}
		}
	}
}

func TestPowerToTheNoughtIsOneModulo(t *testing.T) {
	for _, m := range moduli() {
		want := limb.Of(1)
		if m == limb.Of(1) {
			want = api.Nat{}
		}
		for _, a := range around(m) {
			if got, e := mod.Exp(a, api.Nat{}, m); got != want || e != api.OK {
				t.Errorf("Exp(%v, 0, %v): %v, %v", a, m, got, e)
			}
		}
	}
}

func TestPowersModuloOneAreNought(t *testing.T) {
	for _, a := range around(limb.Of(1)) {
		for _, e := range exponents() {
			if got, errno := mod.Exp(a, e, limb.Of(1)); got != (api.Nat{}) || errno != api.OK {
				t.Errorf("Exp(%v, %v, 1): %v, %v", a, e, got, errno)
			}
		}
	}
}

// Of a prime the power to one less is 1, and the power to two less is the inverse.
func TestExpModuloPrimes(t *testing.T) {
	for _, p := range primes() {
		for _, a := range around(p) {
			inverse, e := mod.Inverse(a, p)
			if e != api.OK {
				continue
			}
			if got, e := mod.Exp(a, less(p, 1), p); got != limb.Of(1) || e != api.OK {
				t.Errorf("%v to the %v less 1: %v, %v", a, p, got, e)
			}
			if got, e := mod.Exp(a, less(p, 2), p); got != inverse || e != api.OK {
				t.Errorf("%v to the %v less 2: %v, %v, want %v", a, p, got, e, inverse)
			}
		}
	}
}

// 2.4
func TestPowerToASumIsTheProductOfPowers(t *testing.T) {
	for i, m := range moduli() {
		bases := around(m)
		a := bases[i%len(bases)]
		for _, e := range exponents() {
			for _, f := range exponents() {
				sum, over := limb.Add(e, f)
				if over {
					continue
				}
				x, _ := mod.Exp(a, e, m)
				y, _ := mod.Exp(a, f, m)
				want, _ := mod.Mul(x, y, m)
				if got, errno := mod.Exp(a, sum, m); got != want || errno != api.OK {
					t.Errorf("%v to the %v and %v, modulo %v: %v, %v, want %v", a, e, f, m, got, errno, want)
				}
			}
		}
	}
}

// 2.4
func TestPowerOfAProductIsTheProductOfPowers(t *testing.T) {
	for i, m := range moduli() {
		e := exponents()[i%len(exponents())]
		bases := around(m)
		var powers []api.Nat
		for j, a := range bases {
			power, _ := mod.Exp(a, e, m)
			powers = append(powers, power)
			for k, b := range bases[:j] {
				product, _ := mod.Mul(a, b, m)
				want, _ := mod.Mul(power, powers[k], m)
				if got, errno := mod.Exp(product, e, m); got != want || errno != api.OK {
					t.Errorf("%v times %v, to the %v, modulo %v: %v, %v, want %v", a, b, e, m, got, errno, want)
				}
			}
		}
	}
}
