package nat

import "slices"

// Decimal digits are converted in groups, as many as fit into a limb.
const (
	groupDigits = 9
	groupValue  = 1_000_000_000
)

// Format returns the value of a in decimal.
func Format(a string) string {
	x := limbs(a)
	if len(x) == 0 {
		return "0"
	}
	var digits []byte
	for len(x) > 0 {
		group := divideByLimb(x, groupValue)
		x = trim(x)
		for range groupDigits {
			digits = append(digits, '0'+byte(group%10))
			group /= 10
		}
	}
	slices.Reverse(digits)
	first := slices.IndexFunc(digits, func(d byte) bool { return d != '0' })
	return string(digits[first:])
}

// Parse returns the magnitude of a decimal string.
func Parse(s string) (string, bool) {
	if s == "" || s[0] == '0' && s != "0" {
		return "", false
	}
	var x []uint32
	group := uint32(0)
	for i := range len(s) {
		if s[i] < '0' || s[i] > '9' {
			return "", false
		}
		group = group*10 + uint32(s[i]-'0')
		if (len(s)-1-i)%groupDigits == 0 {
			x = multiplyAdd(x, groupValue, group)
			group = 0
		}
	}
	return magnitude(x), true
}
