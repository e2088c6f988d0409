package rational

import (
	"strings"

	"voussoir/api"
	"voussoir/integer"
	"voussoir/nat"
)

// Format returns the numerator of x in decimal and, if the denominator is not 1, "/" and the denominator.
func Format(x api.Rational) string {
	x = Normalize(x)
	numerator, denominator := parts(x)
	if x.Den == "" {
		return integer.Format(numerator)
	}
	return integer.Format(numerator) + "/" + integer.Format(denominator)
}

// Parse returns the value of an integer, a fraction or a decimal fraction, or false if s is none of them.
func Parse(s string) (api.Rational, bool) {
	digits, neg := strings.CutPrefix(s, "-")
	above, below, ok := splitFraction(digits)
	if !ok {
		return api.Rational{}, false
	}
	num, numOk := parseDigits(above)
	den, denOk := parseDigits(below)
	if !numOk || !denOk || den == "" {
		return api.Rational{}, false
	}
	return Normalize(api.Rational{Neg: neg, Num: num, Den: den}), true
}

// splitFraction returns the texts of a numerator and a denominator of s. It does not check that they are digits, but
// for a decimal fraction it requires text on both sides of the point, which the numerator does not show.
func splitFraction(s string) (above, below string, ok bool) {
	if above, below, ok = strings.Cut(s, "/"); ok {
		return above, below, true
	}
	whole, decimals, isDecimal := strings.Cut(s, ".")
	if !isDecimal {
		return s, "1", true
	}
	return whole + decimals, "1" + strings.Repeat("0", len(decimals)), whole != "" && decimals != ""
}

// parseDigits returns the magnitude of one or more decimal digits, or false. Other than layer 1's Parse, it accepts
// leading zeros.
func parseDigits(s string) (string, bool) {
	digits := strings.TrimLeft(s, "0")
	if digits == "" {
		return "", s != ""
	}
	return nat.Parse(digits)
}
