package limb_test

import (
	"math"
	"math/big"
	"math/rand/v2"
	"testing"

	"seneschal/api"
	"seneschal/limb"
)

const max64 = math.MaxUint64

var top = api.Nat{max64, max64, max64, max64}

// bigOf answers the number of those parts, reckoned by the library.
func bigOf(parts []uint64) *big.Int {
	n := new(big.Int)
	for i := range parts {
		n.Lsh(n, 64)
		n.Or(n, new(big.Int).SetUint64(parts[len(parts)-1-i]))
	}
	return n
}

func big1(a api.Nat) *big.Int  { return bigOf(a[:]) }
func big2(w api.Wide) *big.Int { return bigOf(w[:]) }

func power(n uint) *big.Int { return new(big.Int).Lsh(big.NewInt(1), n) }

// edgeParts are the parts at which carries, guesses and shifts turn.
func edgeParts() []uint64 {
	return []uint64{0, 1, 2, 1<<63 - 1, 1 << 63, 1<<63 + 1, max64 - 1, max64}
}

// edges answers numbers with those parts at single places, below and above them, and each power of two with its neighbours.
func edges() []api.Nat {
	var l []api.Nat
	for _, p := range edgeParts() {
		l = append(l, api.Nat{p}, api.Nat{0, p}, api.Nat{0, 0, p}, api.Nat{0, 0, 0, p})
		l = append(l, api.Nat{max64, max64, max64, p}, api.Nat{p, max64, max64, max64}, api.Nat{p, 0, 0, 1 << 63})
	}
	for _, i := range []int{1, 31, 63, 64, 65, 127, 128, 129, 191, 192, 193, 254, 255} {
		var a api.Nat
		a[i/64] = 1 << (i % 64)
		below, _ := limb.Sub(a, limb.Of(1))
		l = append(l, a, below)
	}
	return l
}

// drawn answers numbers of all lengths, the same ones each time.
func drawn(n int) []api.Nat {
	r := rand.New(rand.NewPCG(1, 2))
	var l []api.Nat
	for i := range n {
		var a api.Nat
		for j := range a {
			a[j] = r.Uint64()
		}
		length := i * 257 / n
		for j := range a {
			switch keep := length - 64*j; {
			case keep <= 0:
				a[j] = 0
			case keep < 64:
				a[j] &= 1<<keep - 1
			}
		}
		l = append(l, a)
	}
	return l
}

func numbers() []api.Nat { return append(edges(), drawn(100)...) }

// pairs calls f with every two numbers.
func pairs(f func(a, b api.Nat)) {
	l := numbers()
	for _, a := range l {
		for _, b := range l {
			f(a, b)
		}
	}
}

func TestOfAndWidenAreThatNumber(t *testing.T) {
	for _, n := range edgeParts() {
		if got := limb.Of(n); got != (api.Nat{n, 0, 0, 0}) {
			t.Errorf("Of(%d): %v", n, got)
		}
	}
	for _, a := range numbers() {
		if got := limb.Widen(a); got != (api.Wide{a[0], a[1], a[2], a[3]}) {
			t.Errorf("Widen(%v): %v", a, got)
		}
	}
}

func TestCompare(t *testing.T) {
	pairs(func(a, b api.Nat) {
		if got, want := limb.Compare(a, b), big1(a).Cmp(big1(b)); got != want {
			t.Errorf("Compare(%v, %v): %d, want %d", a, b, got, want)
		}
	})
}

func TestAddIsTheSumModulo(t *testing.T) {
	pairs(func(a, b api.Nat) {
		got, over := limb.Add(a, b)
		sum := new(big.Int).Add(big1(a), big1(b))
		if want := new(big.Int).Mod(sum, power(256)); big1(got).Cmp(want) != 0 {
			t.Errorf("Add(%v, %v): %v, want %x", a, b, got, want)
		}
		if want := sum.Cmp(power(256)) >= 0; over != want {
			t.Errorf("Add(%v, %v): over %v, want %v", a, b, over, want)
		}
	})
}

func TestSubIsTheDifferenceModulo(t *testing.T) {
	pairs(func(a, b api.Nat) {
		got, below := limb.Sub(a, b)
		rest := new(big.Int).Sub(big1(a), big1(b))
		if want := new(big.Int).Mod(rest, power(256)); big1(got).Cmp(want) != 0 {
			t.Errorf("Sub(%v, %v): %v, want %x", a, b, got, want)
		}
		if want := rest.Sign() < 0; below != want {
			t.Errorf("Sub(%v, %v): below %v, want %v", a, b, below, want)
		}
	})
}

func TestCarriesGoThroughAllParts(t *testing.T) {
	for _, c := range []struct {
		a, b, sum api.Nat
		over      bool
	}{
		{top, limb.Of(1), api.Nat{}, true},
		{limb.Of(1), top, api.Nat{}, true},
		{top, top, api.Nat{max64 - 1, max64, max64, max64}, true},
		{api.Nat{max64}, limb.Of(1), api.Nat{0, 1}, false},
		{api.Nat{max64, max64, max64}, limb.Of(1), api.Nat{0, 0, 0, 1}, false},
		{api.Nat{5, max64, max64, max64}, api.Nat{0, 1}, api.Nat{5}, true},
		{api.Nat{5, 6, max64, max64}, api.Nat{0, 0, 1}, api.Nat{5, 6}, true},
		{top, api.Nat{}, top, false},
		{api.Nat{}, api.Nat{}, api.Nat{}, false},
	} {
		if sum, over := limb.Add(c.a, c.b); sum != c.sum || over != c.over {
			t.Errorf("Add(%v, %v): %v, %v", c.a, c.b, sum, over)
		}
		if a, below := limb.Sub(c.sum, c.b); a != c.a || below != c.over {
			t.Errorf("Sub(%v, %v): %v, %v", c.sum, c.b, a, below)
		}
	}
}

func TestMulIsTheProduct(t *testing.T) {
	pairs(func(a, b api.Nat) {
		got := limb.Mul(a, b)
		if want := new(big.Int).Mul(big1(a), big1(b)); big2(got).Cmp(want) != 0 {
			t.Errorf("Mul(%v, %v): %v, want %x", a, b, got, want)
		}
	})
}

func TestLength(t *testing.T) {
	for _, a := range numbers() {
		if got, want := limb.Length(a), big1(a).BitLen(); got != want {
			t.Errorf("Length(%v): %d, want %d", a, got, want)
		}
	}
	if n, m := limb.Length(api.Nat{}), limb.Length(top); n != 0 || m != 256 {
		t.Errorf("Length of nought and of the greatest: %d, %d", n, m)
	}
	if n := limb.Length(limb.Of(8)); n != 4 {
		t.Errorf("Length(8): %d", n)
	}
}

func TestBit(t *testing.T) {
	for _, a := range numbers() {
		for i := range 256 {
			if got, want := limb.Bit(a, i), big1(a).Bit(i) == 1; got != want {
				t.Errorf("Bit(%v, %d): %v", a, i, got)
			}
		}
	}
}

func TestBitOutsideIsFalse(t *testing.T) {
	for _, i := range []int{-1, -2, -64, -65, -256, math.MinInt, 256, 257, 320, 512, math.MaxInt} {
		if limb.Bit(top, i) {
			t.Errorf("Bit(the greatest, %d): true", i)
		}
	}
}

// 1.3
func TestSumLessOneOfItsPartsIsTheOther(t *testing.T) {
	pairs(func(a, b api.Nat) {
		sum, over := limb.Add(a, b)
		if rest, below := limb.Sub(sum, b); rest != a || below != over {
			t.Errorf("%v and %v, less the second: %v, %v", a, b, rest, below)
		}
		if rest, below := limb.Sub(sum, a); rest != b || below != over {
			t.Errorf("%v and %v, less the first: %v, %v", a, b, rest, below)
		}
	})
}

// 1.3
func TestProductByOneOfItsFactorsIsTheOther(t *testing.T) {
	pairs(func(a, b api.Nat) {
		if b == (api.Nat{}) {
			return
		}
		quotient, rest, e := limb.Divide(limb.Mul(a, b), b)
		if quotient != limb.Widen(a) || rest != (api.Nat{}) || e != api.OK {
			t.Errorf("%v times %v by the second: %v, %v, %v", a, b, quotient, rest, e)
		}
	})
}

func TestAnswersAreKeptByNobody(t *testing.T) {
	a := api.Nat{1, 2, 3, 4}
	first := limb.Bytes(a)
	first[0] = 99
	if second := limb.Bytes(a); second[0] != 0 {
		t.Errorf("Bytes: the second answer has what was written into the first")
	}
	b := []byte{1, 2, 3}
	n, _ := limb.Read(b)
	if b[0] != 1 || b[1] != 2 || b[2] != 3 {
		t.Errorf("Read changed what was handed in: %v", b)
	}
	b[2] = 99
	if n != limb.Of(0x010203) {
		t.Errorf("Read kept what was handed in: %v", n)
	}
}

func TestNumbersHandedInAreNotChanged(t *testing.T) {
	pairs(func(a, b api.Nat) {
		oldA, oldB := a, b
		w := limb.Widen(a)
		limb.Compare(a, b)
		limb.Add(a, b)
		limb.Sub(a, b)
		limb.Mul(a, b)
		limb.Divide(w, b)
		if a != oldA || b != oldB || w != limb.Widen(oldA) {
			t.Errorf("changed: %v, %v", oldA, oldB)
		}
	})
}
