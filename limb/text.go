package limb

import (
	"strings"

	"seneschal/api"
)

const (
	natBytes   = 32 // of a number
	partBytes  = 8  // of a part
	natDigits  = 64 // of a number's text, at most
	partDigits = 16 // of a part
	digits     = "0123456789abcdef"
)

// Bytes answers the 32 bytes of a, the highest first.
func Bytes(a api.Nat) []byte {
	out := make([]byte, natBytes)
	for place := range natBytes {
		out[natBytes-1-place] = byte(a[place/partBytes] >> (place % partBytes * 8))
	}
	return out
}

// Read answers the number whose bytes b is, the highest first.
func Read(b []byte) (api.Nat, api.Errno) {
	if len(b) > natBytes {
		return api.Nat{}, api.ErrLong
	}
	var a api.Nat
	for place := range len(b) {
		a[place/partBytes] |= uint64(b[len(b)-1-place]) << (place % partBytes * 8)
	}
	return a, api.OK
}

// Text answers the text of a.
func Text(a api.Nat) string {
	n := max(1, (Length(a)+3)/4)
	out := make([]byte, n)
	for place := range n {
		out[n-1-place] = digits[a[place/partDigits]>>(place%partDigits*4)&15]
	}
	return string(out)
}

// Parse answers the number whose text s is.
func Parse(s string) (api.Nat, api.Errno) {
	if !isText(s) {
		return api.Nat{}, api.ErrArg
	}
	if len(s) > natDigits {
		return api.Nat{}, api.ErrLong
	}
	var a api.Nat
	for place := range len(s) {
		digit := strings.IndexByte(digits, s[len(s)-1-place])
		a[place/partDigits] |= uint64(digit) << (place % partDigits * 4)
	}
	return a, api.OK
}

// isText answers whether s is the text of any number, however great.
func isText(s string) bool {
	if s == "" || s[0] == '0' && len(s) > 1 {
		return false
	}
	for i := range len(s) {
		if strings.IndexByte(digits, s[i]) < 0 {
			return false
		}
	}
	return true
}
