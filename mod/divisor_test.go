package mod_test

import (
	"math/big"
	"testing"

	"seneschal/api"
	"seneschal/limb"
	"seneschal/mod"
)

func TestInverseModuloTen(t *testing.T) {
	want := map[uint64]uint64{1: 1, 3: 7, 7: 3, 9: 9}
	for a := range uint64(10) {
		got, e := mod.Inverse(limb.Of(a), limb.Of(10))
		if want[a] == 0 {
			checkRefused(t, "Inverse", got, e)
		} else if got != limb.Of(want[a]) || e != api.OK {
			t.Errorf("Inverse(%d, 10): %v, %v", a, got, e)
		}
	}
}

func TestInverseModuloOneIsNought(t *testing.T) {
	for _, a := range around(limb.Of(1)) {
		if got, e := mod.Inverse(a, limb.Of(1)); got != (api.Nat{}) || e != api.OK {
			t.Errorf("Inverse(%v, 1): %v, %v", a, got, e)
		}
	}
}

func TestInverseSmallNumbersAllOfThem(t *testing.T) {
	for m := uint64(1); m <= 80; m++ {
		for a := range uint64(170) {
			found := false
			got, e := mod.Inverse(limb.Of(a), limb.Of(m))
			for x := range m {
				if a*x%m == 1%m {
					found = true
					checkNumber(t, "Inverse", got, e, new(big.Int).SetUint64(x))
				}
			}
			if !found {
				checkRefused(t, "Inverse", got, e)
			}
		}
	}
}

func TestInverse(t *testing.T) {
	for _, m := range moduli() {
		for _, a := range append(around(m), drawn(60)[8:]...) {
			got, e := mod.Inverse(a, m)
			want := new(big.Int).ModInverse(big1(a), big1(m))
			switch {
			case m == limb.Of(1):
				checkNumber(t, "Inverse", got, e, new(big.Int))
			case want == nil:
				checkRefused(t, "Inverse", got, e)
			default:
				checkNumber(t, "Inverse", got, e, want)
			}
		}
	}
}

// Neighbours of a growing sum of two take the most steps to their divisor, and have the greatest factors.
func TestInverseAndGcdOfNeighboursThatTakeTheMostSteps(t *testing.T) {
	a, b, over := limb.Of(1), limb.Of(2), false
	for !over {
		got, e := mod.Inverse(a, b)
		checkNumber(t, "Inverse", got, e, new(big.Int).ModInverse(big1(a), big1(b)))
		if d := mod.Gcd(a, b); d != limb.Of(1) {
			t.Errorf("Gcd(%v, %v): %v", a, b, d)
		}
		sum := api.Nat{}
		sum, over = limb.Add(a, b)
		a, b = b, sum
	}
}

func TestGcdOfNought(t *testing.T) {
	for _, b := range append(moduli(), api.Nat{}) {
		if x, y := mod.Gcd(api.Nat{}, b), mod.Gcd(b, api.Nat{}); x != b || y != b {
			t.Errorf("Gcd of 0 and %v, and the other way round: %v, %v", b, x, y)
		}
	}
}

func TestGcd(t *testing.T) {
	if d := mod.Gcd(limb.Of(12), limb.Of(18)); d != limb.Of(6) {
		t.Errorf("Gcd(12, 18): %v", d)
	}
	for _, a := range moduli() {
		for _, b := range append(moduli(), around(a)...) {
			want := new(big.Int).GCD(nil, nil, big1(a), big1(b))
			checkNumber(t, "Gcd", mod.Gcd(a, b), api.OK, want)
		}
	}
}

// 2.3
func TestInverseUndoesAProduct(t *testing.T) {
	for _, m := range moduli() {
		for _, a := range around(m) {
			inverse, e := mod.Inverse(a, m)
			if e != api.OK {
				continue
			}
			if limb.Compare(inverse, m) >= 0 {
				t.Errorf("Inverse(%v, %v): %v is no less than the modulus", a, m, inverse)
			}
			for _, b := range around(m) {
				product, _ := mod.Mul(a, b, m)
				want, _ := mod.Reduce(limb.Widen(b), m)
				if back, e := mod.Mul(product, inverse, m); back != want || e != api.OK {
					t.Errorf("%v times %v, and the inverse of the first, modulo %v: %v, %v", a, b, m, back, e)
				}
			}
		}
	}
}

// 2.3
func TestInverseOfAProductIsTheProductOfInverses(t *testing.T) {
	for _, m := range primes() {
		for _, a := range around(m) {
			for _, b := range around(m) {
				product, _ := mod.Mul(a, b, m)
				got, e := mod.Inverse(product, m)
				x, e1 := mod.Inverse(a, m)
				y, e2 := mod.Inverse(b, m)
				if e1 != api.OK || e2 != api.OK {
					checkRefused(t, "Inverse of a product", got, e)
					continue
				}
				if want, _ := mod.Mul(x, y, m); got != want || e != api.OK {
					t.Errorf("the inverse of %v times %v modulo %v: %v, %v, want %v", a, b, m, got, e, want)
				}
			}
		}
	}
}

// There is an inverse just if there is no common divisor but 1.
func TestInverseIsThereJustIfTheGcdIsOne(t *testing.T) {
	for _, m := range moduli() {
		for _, a := range around(m) {
			_, e := mod.Inverse(a, m)
			if (e == api.OK) != (mod.Gcd(a, m) == limb.Of(1)) {
				t.Errorf("Inverse(%v, %v): %v, and the divisor is %v", a, m, e, mod.Gcd(a, m))
			}
		}
	}
}

// 2.5, for small numbers all divisors
func TestNoGreaterNumberDividesBoth(t *testing.T) {
	for a := range uint64(60) {
		for b := range uint64(60) {
			want := max(a, b)
			if a != 0 && b != 0 {
				for want = min(a, b); a%want != 0 || b%want != 0; {
					want--
				}
			}
			if got := mod.Gcd(limb.Of(a), limb.Of(b)); got != limb.Of(want) {
				t.Errorf("Gcd(%d, %d): %v, want %d", a, b, got, want)
			}
		}
	}
}

// 2.5, reckoned by the layers' own calls
func TestDivisorDividesAndWhatIsLeftHasNone(t *testing.T) {
	for _, a := range moduli() {
		for _, b := range moduli() {
			d := mod.Gcd(a, b)
			x, restA, e1 := limb.Divide(limb.Widen(a), d)
			y, restB, e2 := limb.Divide(limb.Widen(b), d)
			if restA != (api.Nat{}) || restB != (api.Nat{}) || e1 != api.OK || e2 != api.OK {
				t.Errorf("Gcd(%v, %v): %v does not divide both", a, b, d)
			}
			if more := mod.Gcd(api.Nat(x[:4]), api.Nat(y[:4])); more != limb.Of(1) {
				t.Errorf("Gcd(%v, %v): %v, and %v times that divides both", a, b, d, more)
			}
		}
	}
}
