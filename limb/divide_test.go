package limb_test

import (
	"math/big"
	"math/rand/v2"
	"testing"

	"seneschal/api"
	"seneschal/limb"
)

// checkDivide holds a division against the library's.
func checkDivide(t *testing.T, w api.Wide, m api.Nat) {
	t.Helper()
	quotient, rest, e := limb.Divide(w, m)
	wantQuotient, wantRest := new(big.Int).QuoRem(big2(w), big1(m), new(big.Int))
	if big2(quotient).Cmp(wantQuotient) != 0 || big1(rest).Cmp(wantRest) != 0 || e != api.OK {
		t.Errorf("Divide(%v, %v): %v, %v, %v, want %x, %x", w, m, quotient, rest, e, wantQuotient, wantRest)
	}
}

// dividends answers wide numbers at the edges and drawn ones of all lengths.
func dividends() []api.Wide {
	var greatest api.Wide
	for i := range greatest {
		greatest[i] = max64
	}
	l := []api.Wide{{}, {1}, greatest}
	for i := range 8 {
		var one api.Wide
		one[i] = 1
		below := greatest
		below[i] = 0
		lower := api.Wide{}
		copy(lower[:i], greatest[:i])
		l = append(l, one, below, lower)
	}
	r := rand.New(rand.NewPCG(3, 4))
	for i := range 64 {
		var w api.Wide
		for j := range i%8 + 1 {
			w[j] = r.Uint64()
		}
		l = append(l, w)
	}
	return l
}

func TestDivide(t *testing.T) {
	for _, w := range dividends() {
		for _, m := range numbers() {
			if m != (api.Nat{}) {
				checkDivide(t, w, m)
			}
		}
	}
}

func TestDivideByPowersOfTwo(t *testing.T) {
	for _, w := range dividends() {
		for i := range 256 {
			var m api.Nat
			m[i/64] = 1 << (i % 64)
			checkDivide(t, w, m)
		}
	}
}

func TestDivideAroundMultiples(t *testing.T) {
	one := limb.Of(1)
	pairs(func(q, m api.Nat) {
		w := limb.Mul(q, m)
		if m == (api.Nat{}) || q == (api.Nat{}) {
			return
		}
		checkDivide(t, w, m)
		low, below := limb.Sub(api.Nat(w[:4]), one)
		copy(w[:4], low[:])
		if below {
			high, _ := limb.Sub(api.Nat(w[4:]), one)
			copy(w[4:], high[:])
		}
		checkDivide(t, w, m)
	})
}

// A part of the quotient may be guessed one or two too great; these parts bring all of that about.
func TestDivideWhereGuessesFail(t *testing.T) {
	parts := edgeParts()
	r := rand.New(rand.NewPCG(5, 6))
	for i := range 4096 {
		m := api.Nat{parts[i&7], parts[i>>3&7], parts[i>>6&7], parts[i>>9&7]}
		if m == (api.Nat{}) {
			continue
		}
		for range 8 {
			var w api.Wide
			for j := range w {
				w[j] = parts[r.IntN(len(parts))]
			}
			checkDivide(t, w, m)
		}
		checkDivide(t, api.Wide{0, 0, 0, 0, m[0] - 1, m[1], m[2], m[3]}, m)
		checkDivide(t, api.Wide{0, 0, 0, m[0], 0, m[1], m[2], m[3]}, m)
	}
}

func TestDivideByNought(t *testing.T) {
	for _, w := range dividends() {
		quotient, rest, e := limb.Divide(w, api.Nat{})
		if quotient != (api.Wide{}) || rest != (api.Nat{}) || e != api.ErrZero {
			t.Errorf("Divide(%v, 0): %v, %v, %v", w, quotient, rest, e)
		}
	}
}

// 1.4, reckoned by the layer's own calls
func TestQuotientTimesDivisorAndRemainderIsWhatWasDivided(t *testing.T) {
	for _, w := range dividends() {
		for _, m := range numbers() {
			if m == (api.Nat{}) {
				continue
			}
			quotient, rest, _ := limb.Divide(w, m)
			if limb.Compare(rest, m) >= 0 {
				t.Errorf("Divide(%v, %v): the remainder %v is no less", w, m, rest)
			}
			if got, over := backFrom(quotient, m, rest); got != w || over {
				t.Errorf("Divide(%v, %v): back to %v, %v", w, m, got, over)
			}
		}
	}
}

// backFrom answers the quotient times m, and the remainder, and whether that is 2 to the 512 or more.
func backFrom(quotient api.Wide, m, rest api.Nat) (api.Wide, bool) {
	low := limb.Mul(api.Nat(quotient[:4]), m)
	high := limb.Mul(api.Nat(quotient[4:]), m)
	bottom, carry := limb.Add(api.Nat(low[:4]), rest)
	middle, over := limb.Add(api.Nat(low[4:]), api.Nat(high[:4]))
	if carry {
		var more bool
		middle, more = limb.Add(middle, limb.Of(1))
		over = over || more
	}
	var w api.Wide
	copy(w[:4], bottom[:])
	copy(w[4:], middle[:])
	return w, over || api.Nat(high[4:]) != (api.Nat{})
}
