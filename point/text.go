package point

import (
	"strings"

	"voussoir/api"
	"voussoir/rational"
)

// separator stands between two coordinates in the text of a point.
const separator = ", "

// Format returns the string "(x, y, z)".
func Format(p api.Point) string {
	var texts []string
	for _, coordinate := range Coords(p) {
		texts = append(texts, rational.Format(coordinate))
	}
	return "(" + strings.Join(texts, separator) + ")"
}

// Parse returns the point whose Format is s, or false if there is none.
func Parse(s string) (api.Point, bool) {
	s, opened := strings.CutPrefix(s, "(")
	s, closed := strings.CutSuffix(s, ")")
	texts := strings.Split(s, separator)
	var v api.Vec3
	if !opened || !closed || len(texts) != len(v) {
		return api.Point{}, false
	}
	for axis, text := range texts {
		coordinate, ok := rational.Parse(text)
		// Layer 3 also parses leading zeros, decimal fractions and fractions that are not in lowest terms.
		if !ok || rational.Format(coordinate) != text {
			return api.Point{}, false
		}
		v[axis] = coordinate
	}
	return FromCoords(v), true
}
