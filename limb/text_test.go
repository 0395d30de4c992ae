package limb_test

import (
	"bytes"
	"math/big"
	"strings"
	"testing"

	"seneschal/api"
	"seneschal/limb"
)

func TestBytesAreThirtyTwoTheHighestFirst(t *testing.T) {
	for _, a := range numbers() {
		if got, want := limb.Bytes(a), big1(a).FillBytes(make([]byte, 32)); !bytes.Equal(got, want) {
			t.Errorf("Bytes(%v): %x, want %x", a, got, want)
		}
	}
}

func TestReadTakesAnyNumberOfBytesUpToThirtyTwo(t *testing.T) {
	all := make([]byte, 32)
	for i := range all {
		all[i] = byte(0xf0 - i)
	}
	for n := range 33 {
		got, e := limb.Read(all[:n])
		if want := new(big.Int).SetBytes(all[:n]); big1(got).Cmp(want) != 0 || e != api.OK {
			t.Errorf("Read of %d bytes: %v, %v, want %x", n, got, e, want)
		}
		got, e = limb.Read(make([]byte, n))
		if got != (api.Nat{}) || e != api.OK {
			t.Errorf("Read of %d noughts: %v, %v", n, got, e)
		}
	}
}

func TestReadOfNoBytesIsNought(t *testing.T) {
	for _, b := range [][]byte{nil, {}} {
		if got, e := limb.Read(b); got != (api.Nat{}) || e != api.OK {
			t.Errorf("Read of none: %v, %v", got, e)
		}
	}
}

func TestReadRefusesMoreThanThirtyTwoBytes(t *testing.T) {
	for _, n := range []int{33, 34, 64, 5000} {
		for _, b := range [][]byte{make([]byte, n), bytes.Repeat([]byte{255}, n)} {
			if got, e := limb.Read(b); got != (api.Nat{}) || e != api.ErrLong {
				t.Errorf("Read of %d bytes: %v, %v", n, got, e)
			}
		}
	}
}

func TestText(t *testing.T) {
	for _, a := range numbers() {
		if got, want := limb.Text(a), big1(a).Text(16); got != want {
			t.Errorf("Text(%v): %q, want %q", a, got, want)
		}
	}
	for want, a := range map[string]api.Nat{
		"0":                     {},
		"f":                     limb.Of(15),
		"10":                    limb.Of(16),
		"ff":                    limb.Of(255),
		"10000000000000000":     {0, 1},
		strings.Repeat("f", 64): top,
	} {
		if got := limb.Text(a); got != want {
			t.Errorf("Text(%v): %q, want %q", a, got, want)
		}
	}
}

func TestParse(t *testing.T) {
	for _, a := range numbers() {
		if got, e := limb.Parse(big1(a).Text(16)); got != a || e != api.OK {
			t.Errorf("Parse(%x): %v, %v", big1(a), got, e)
		}
	}
	if got, e := limb.Parse("fedcba9876543210"); got != limb.Of(0xfedcba9876543210) || e != api.OK {
		t.Errorf("Parse of all digits: %v, %v", got, e)
	}
}

func TestParseRefusesWhatIsNoText(t *testing.T) {
	ones := strings.Repeat("1", 64)
	for _, s := range []string{
		"", "00", "01", "0f", "000", "0" + ones, "0" + ones + ones,
		"F", "fF", "A", "1A", "g", "1g", "g1", "/", ":", "`", "@", "G", " ", " 1", "1 ", "1 1", "-1", "+1", "0x1", "x", "1_0", "1.0", "\n", "1\n",
		"\x00", "1\x00", "\xff", "\xff1", "ä", "1ä", "１", "٣",
		ones[1:] + "g", ones + "g", "g" + ones, ones + "g" + ones, ones + "F",
	} {
		if got, e := limb.Parse(s); got != (api.Nat{}) || e != api.ErrArg {
			t.Errorf("Parse(%q): %v, %v", s, got, e)
		}
	}
}

func TestParseRefusesEachByteThatIsNoDigit(t *testing.T) {
	for c := range 256 {
		s := "1" + string([]byte{byte(c)})
		want := api.ErrArg
		if strings.IndexByte("0123456789abcdef", byte(c)) >= 0 {
			want = api.OK
		}
		if _, e := limb.Parse(s); e != want {
			t.Errorf("Parse(%q): %v, want %v", s, e, want)
		}
	}
}

func TestParseRefusesWhatIsTooGreat(t *testing.T) {
	for _, s := range []string{
		"1" + strings.Repeat("0", 64), "1" + strings.Repeat("f", 64), strings.Repeat("f", 65),
		"1" + strings.Repeat("0", 127), strings.Repeat("a", 100000),
	} {
		if got, e := limb.Parse(s); got != (api.Nat{}) || e != api.ErrLong {
			t.Errorf("Parse of %d digits: %v, %v", len(s), got, e)
		}
	}
	if got, e := limb.Parse(strings.Repeat("f", 64)); got != top || e != api.OK {
		t.Errorf("Parse of the greatest: %v, %v", got, e)
	}
}

// 1.5
func TestBytesAndTextsAreReadBack(t *testing.T) {
	for _, a := range numbers() {
		if got, e := limb.Read(limb.Bytes(a)); got != a || e != api.OK {
			t.Errorf("Read(Bytes(%v)): %v, %v", a, got, e)
		}
		if got, e := limb.Parse(limb.Text(a)); got != a || e != api.OK {
			t.Errorf("Parse(Text(%v)): %v, %v", a, got, e)
		}
	}
	for n := range 33 {
		b := bytes.Repeat([]byte{0x9a}, n)
		a, _ := limb.Read(b)
		if got := limb.Bytes(a); !bytes.Equal(got[32-n:], b) || !bytes.Equal(got[:32-n], make([]byte, 32-n)) {
			t.Errorf("Bytes(Read(%x)): %x", b, got)
		}
	}
}
