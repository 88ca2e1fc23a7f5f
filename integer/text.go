package integer

import (
	"strings"

	"torsion/api"
)

// Decimal digits are read and written in groups, the greatest ones whose values fit into a limb.
const (
	groupDigits = 9
	groupSize   = 1_000_000_000
)

// Text returns a in decimal digits without leading zeros, after "-" if a is negative.
func Text(a api.Int) string {
	a = tidy(a)
	if len(a.Mag) == 0 {
		return "0"
	}
	digits := strings.TrimLeft(string(groups(a.Mag)), "0")
	if a.Neg {
		return "-" + digits
	}
	return digits
}

// groups returns the decimal digits of a, in whole groups.
func groups(a []uint32) []byte {
	rest := make([]uint32, len(a))
	copy(rest, a)
	buffer := make([]byte, 10*len(a)+groupDigits) // 2^32 < 10^10
	start := len(buffer)
	for len(rest) > 0 {
		group := groupText(divideInPlace(rest, groupSize))
		rest = trim(rest)
		start -= groupDigits
		copy(buffer[start:], group[:])
	}
	return buffer[start:]
}

// groupText returns the decimal digits of one group, with leading zeros.
func groupText(n uint32) [groupDigits]byte {
	var text [groupDigits]byte
	for i := groupDigits - 1; i >= 0; i-- {
		text[i] = '0' + byte(n%10)
		n /= 10
	}
	return text
}

// Read returns the integer a with Text(a) = s, ErrBig if s has more than api.MaxText bytes, and ErrForm if there is no such integer.
func Read(s string) (api.Int, api.Errno) {
	if len(s) > api.MaxText {
		return api.Int{}, api.ErrBig
	}
	digits, neg := strings.CutPrefix(s, "-")
	if !isNumber(digits) || neg && digits == "0" {
		return api.Int{}, api.ErrForm
	}
	var limbs []uint32
	for len(digits) > 0 {
		n := (len(digits)-1)%groupDigits + 1 // only the first group can be shorter than the others
		limbs = appendGroup(limbs, groupValue(digits[:n]))
		digits = digits[n:]
	}
	return build(neg, limbs), api.OK
}

// isNumber reports whether s consists of decimal digits without superfluous zeros before them.
func isNumber(s string) bool {
	for i := range len(s) {
		if s[i] < '0' || s[i] > '9' {
			return false
		}
	}
	return s == "0" || s != "" && s[0] != '0'
}

// groupValue returns the number with the decimal digits of one group.
func groupValue(digits string) uint32 {
	n := uint32(0)
	for i := range len(digits) {
		n = 10*n + uint32(digits[i]-'0')
	}
	return n
}

// appendGroup returns the limbs of the number whose decimal digits are those of a, followed by a group; the limbs of a are overwritten.
func appendGroup(a []uint32, group uint32) []uint32 {
	carry := uint64(group)
	for i := range len(a) {
		carry += uint64(a[i]) * groupSize
		a[i] = uint32(carry)
		carry >>= 32
	}
	if carry > 0 {
		a = append(a, uint32(carry))
	}
	return a
}
