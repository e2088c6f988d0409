package plane

import (
	"strings"

	"voussoir/api"
	"voussoir/integer"
)

// separator stands between two coefficients in the text of a plane.
const separator = " "

// Format returns the string "[A B C D]".
func Format(p api.Plane) string {
	var texts []string
	for _, coefficient := range coefficients(p) {
		texts = append(texts, integer.Format(coefficient))
	}
	return "[" + strings.Join(texts, separator) + "]"
}

// Parse returns the plane in canonical form whose Format is s, or false if there is none.
func Parse(s string) (api.Plane, bool) {
	s, opened := strings.CutPrefix(s, "[")
	s, closed := strings.CutSuffix(s, "]")
	texts := strings.Split(s, separator)
	var c [4]api.Int
	if !opened || !closed || len(texts) != len(c) {
		return api.Plane{}, false
	}
	for i, text := range texts {
		coefficient, ok := integer.Parse(text)
		if !ok {
			return api.Plane{}, false
		}
		c[i] = coefficient
	}
	// Format returns no text of coefficients with a common divisor, because they are not in canonical form.
	p, ok := reduced(c)
	if !ok || p != fromCoefficients(c) {
		return api.Plane{}, false
	}
	return p, true
}
