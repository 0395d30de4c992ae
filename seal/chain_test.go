package seal

import (
	"bytes"
	"encoding/hex"
	"testing"
)

const sentence = "I would like the General Gau's Chicken, please, and wonton soup."

func TestChainsOfTheStandard(t *testing.T) { // 7.1, 7.2: RFC 3962, appendix B
	key := []byte("chicken teriyaki")
	for n, want := range map[int]string{
		17: "c6353568f2bf8cb4d8a580362da7ff7f97",
		31: "fc00783e0efdb2c1d445d4c8eff7ed2297687268d6ecccc0c07b25e25ecfe5",
		32: "39312523a78662d5be7fcbcc98ebf5a897687268d6ecccc0c07b25e25ecfe584",
		47: "97687268d6ecccc0c07b25e25ecfe584b3fffd940c16a18c1b5549d2f838029e39312523a78662d5be7fcbcc98ebf5",
		48: "97687268d6ecccc0c07b25e25ecfe5849dad8bbb96c4cdc03bc103e1a194bbd839312523a78662d5be7fcbcc98ebf5a8",
		64: "97687268d6ecccc0c07b25e25ecfe58439312523a78662d5be7fcbcc98ebf5a84807efe836ee89a526730dbc2f7bc8409dad8bbb96c4cdc03bc103e1a194bbd8",
	} {
		text := []byte(sentence[:n])
		there := encrypted(key, text)
		if got := hex.EncodeToString(there); got != want {
			t.Errorf("%d bytes: %s, want %s", n, got, want)
		}
		if back := decrypted(key, there); !bytes.Equal(back, text) {
			t.Errorf("%d bytes, there and back: %q", n, back)
		}
	}
}
