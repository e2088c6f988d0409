package polygon_test

import (
	"math/big"
	"math/rand"
	"slices"
	"strings"

	"voussoir/api"
	"voussoir/plane"
	"voussoir/point"
	"voussoir/rational"
)

// This file computes with math/big, without the layers under test, what the functions of package polygon must return, and
// makes polygons for the tests.

// vector is a vector or a point with Cartesian coordinates.
type vector [3]*big.Rat

// equation holds A, B, C and D of A*x + B*y + C*z = D.
type equation [4]*big.Rat

// natural returns the number that a magnitude represents.
func natural(magnitude string) *big.Int {
	bytes := []byte(magnitude)
	slices.Reverse(bytes)
	return new(big.Int).SetBytes(bytes)
}

// magnitude returns the magnitude of n without trailing zero bytes.
func magnitude(n *big.Int) string {
	bytes := n.Bytes()
	slices.Reverse(bytes)
	return string(bytes)
}

// bigInt returns the number that x represents, in whatever form x is.
func bigInt(x api.Int) *big.Int {
	n := natural(x.Mag)
	if x.Neg {
		n.Neg(n)
	}
	return n
}

// fromBigInt returns n in canonical form.
func fromBigInt(n *big.Int) api.Int {
	return api.Int{Neg: n.Sign() < 0, Mag: magnitude(n)}
}

// orOne returns n, or 1 if n is zero.
func orOne(n *big.Int) *big.Int {
	if n.Sign() == 0 {
		return big.NewInt(1)
	}
	return n
}

// fromBigRat returns n in canonical form.
func fromBigRat(n *big.Rat) api.Rational {
	x := api.Rational{Neg: n.Sign() < 0, Num: magnitude(n.Num())}
	if !n.IsInt() {
		x.Den = magnitude(n.Denom())
	}
	return x
}

// number returns the rational number with the text s.
func number(s string) *big.Rat {
	n, ok := new(big.Rat).SetString(s)
	if !ok {
		panic(s)
	}
	return n
}

// vec returns the vector with the texts of three components.
func vec(text string) vector {
	fields := strings.Fields(text)
	return vector{number(fields[0]), number(fields[1]), number(fields[2])}
}

// coprime returns the numbers divided by a positive number, such that they are integers without a common divisor.
func coprime(numbers []*big.Rat) []api.Int {
	common, divisor := big.NewInt(1), new(big.Int)
	for _, x := range numbers {
		common.Mul(common, x.Denom())
	}
	var integers []*big.Int
	for _, x := range numbers {
		n := new(big.Rat).Mul(x, new(big.Rat).SetInt(common)).Num()
		divisor.GCD(nil, nil, divisor, new(big.Int).Abs(n))
		integers = append(integers, n)
	}
	var result []api.Int
	for _, n := range integers {
		result = append(result, fromBigInt(new(big.Int).Quo(n, orOne(divisor))))
	}
	return result
}

// canonical returns the plane with the equation e in canonical form, or false if A, B and C are 0.
func canonical(e equation) (api.Plane, bool) {
	if e[0].Sign() == 0 && e[1].Sign() == 0 && e[2].Sign() == 0 {
		return api.Plane{}, false
	}
	c := coprime(e[:])
	return api.Plane{A: c[0], B: c[1], C: c[2], D: c[3]}, true
}

// toEquation returns the equation of p, in whatever form p is.
func toEquation(p api.Plane) equation {
	var e equation
	for i, x := range []api.Int{p.A, p.B, p.C, p.D} {
		e[i] = new(big.Rat).SetInt(bigInt(x))
	}
	return e
}

// toVector returns the Cartesian coordinates of p, in whatever form p is.
func toVector(p api.Point) vector {
	w := orOne(bigInt(p.W))
	return vector{new(big.Rat).SetFrac(bigInt(p.X), w), new(big.Rat).SetFrac(bigInt(p.Y), w), new(big.Rat).SetFrac(bigInt(p.Z), w)}
}

// fromVector returns the point with the coordinates v in canonical form.
func fromVector(v vector) api.Point {
	c := coprime(append(v[:], big.NewRat(1, 1)))
	return api.Point{X: c[0], Y: c[1], Z: c[2], W: c[3]}
}

// combine returns x + k * y.
func combine(x, y vector, k *big.Rat) vector {
	var sum vector
	for i := range sum {
		sum[i] = new(big.Rat).Mul(k, y[i])
		sum[i].Add(sum[i], x[i])
	}
	return sum
}

// difference returns y - x.
func difference(x, y vector) vector {
	return combine(y, x, big.NewRat(-1, 1))
}

// product returns the scalar product of x and y.
func product(x, y vector) *big.Rat {
	sum := new(big.Rat)
	for i := range x {
		sum.Add(sum, new(big.Rat).Mul(x[i], y[i]))
	}
	return sum
}

// cross returns the cross product of x and y.
func cross(x, y vector) vector {
	minor := func(i, j int) *big.Rat {
		return new(big.Rat).Sub(new(big.Rat).Mul(x[i], y[j]), new(big.Rat).Mul(x[j], y[i]))
	}
	return vector{minor(1, 2), minor(2, 0), minor(0, 1)}
}

// normal returns A, B and C.
func normal(p api.Plane) vector {
	e := toEquation(p)
	return vector{e[0], e[1], e[2]}
}

// excess returns A*x + B*y + C*z - D.
func excess(p api.Plane, x api.Point) *big.Rat {
	return new(big.Rat).Sub(product(normal(p), toVector(x)), toEquation(p)[3])
}

// turn returns 1, 0 or -1 if x is left of the edge from a to b of a polygon on p, neither left nor right, or right.
func turn(p api.Plane, a, b, x api.Point) int {
	from := toVector(a)
	return product(normal(p), cross(difference(from, toVector(b)), difference(from, toVector(x)))).Sign()
}

// following returns the vertex after the one at index i.
func following(p api.Polygon, i int) api.Point {
	if i++; i < len(p.Vertices) {
		return p.Vertices[i]
	}
	return p.Vertices[0]
}

// expectedCheck returns what Check(p) must return.
func expectedCheck(p api.Polygon) api.Errno {
	if q, ok := canonical(toEquation(p.Plane)); !ok || q != p.Plane {
		return api.ErrForm
	}
	for _, x := range p.Vertices {
		if fromVector(toVector(x)) != x {
			return api.ErrForm
		}
	}
	if len(p.Vertices) < 3 {
		return api.ErrShort
	}
	for _, x := range p.Vertices {
		if excess(p.Plane, x).Sign() != 0 {
			return api.ErrRange
		}
	}
	for i, a := range p.Vertices {
		for j, x := range p.Vertices {
			if j != i && j != i+1 && (j != 0 || i != len(p.Vertices)-1) && turn(p.Plane, a, following(p, i), x) <= 0 {
				return api.ErrArg
			}
		}
	}
	return api.OK
}

// crossing returns the point of the segment from a to b on the plane by. The two must be on different sides.
func crossing(by api.Plane, a, b api.Point) api.Point {
	fromA, fromB := excess(by, a), excess(by, b)
	t := new(big.Rat).Quo(fromA, new(big.Rat).Sub(fromA, fromB))
	return fromVector(combine(toVector(a), difference(toVector(a), toVector(b)), t))
}

// expectedPart returns the part of p on the side of by with the given sign.
func expectedPart(p api.Polygon, by api.Plane, sign int) api.Polygon {
	result, strict := api.Polygon{Plane: p.Plane}, false
	for i, a := range p.Vertices {
		b := following(p, i)
		here, there := excess(by, a).Sign(), excess(by, b).Sign()
		if here != -sign {
			result.Vertices = append(result.Vertices, a)
		}
		if here != 0 && there == -here {
			result.Vertices = append(result.Vertices, crossing(by, a, b))
		}
		strict = strict || here == sign
	}
	if !strict {
		return api.Polygon{}
	}
	return result
}

// expectedFlip returns what Flip(p) must return.
func expectedFlip(p api.Polygon) api.Polygon {
	e := toEquation(p.Plane)
	for i := range e {
		e[i] = new(big.Rat).Neg(e[i])
	}
	flipped, _ := canonical(e)
	vertices := []api.Point{p.Vertices[0]}
	for i := len(p.Vertices) - 1; i > 0; i-- {
		vertices = append(vertices, p.Vertices[i])
	}
	return api.Polygon{Plane: flipped, Vertices: vertices}
}

// areaVector returns half the sum of the cross products of consecutive vertices, which doesn't depend on the origin.
func areaVector(p api.Polygon) vector {
	sum := vec("0 0 0")
	for i, a := range p.Vertices {
		sum = combine(sum, cross(toVector(a), toVector(following(p, i))), big.NewRat(1, 2))
	}
	return sum
}

// expectedArea returns what Area(p) must return.
func expectedArea(p api.Polygon) api.Vec3 {
	v := areaVector(p)
	return api.Vec3{fromBigRat(v[0]), fromBigRat(v[1]), fromBigRat(v[2])}
}

// expectedClass returns what Classify(p, x) must return.
func expectedClass(p api.Polygon, x api.Point) int {
	if excess(p.Plane, x).Sign() != 0 {
		return api.Out
	}
	onEdge := false
	for i, a := range p.Vertices {
		switch turn(p.Plane, a, following(p, i), x) {
		case -1:
			return api.Out
		case 0:
			onEdge = true
		}
	}
	if onEdge {
		return api.On
	}
	return api.In
}

// of returns the plane with the given coefficients, as they are.
func of(a, b, c, d int64) api.Plane {
	return api.Plane{A: fromBigInt(big.NewInt(a)), B: fromBigInt(big.NewInt(b)), C: fromBigInt(big.NewInt(c)), D: fromBigInt(big.NewInt(d))}
}

// at returns the point with the texts of its coordinates in canonical form.
func at(text string) api.Point {
	return fromVector(vec(text))
}

// points returns the points with the texts of their coordinates, separated by semicolons.
func points(text string) []api.Point {
	var list []api.Point
	for part := range strings.SplitSeq(text, ";") {
		if strings.TrimSpace(part) != "" {
			list = append(list, at(part))
		}
	}
	return list
}

// gon returns the polygon on the given plane with the texts of its vertices.
func gon(p api.Plane, text string) api.Polygon {
	return api.Polygon{Plane: p, Vertices: points(text)}
}

// square returns a square with sides of 4 on the plane z = 0 with the front above.
func square() api.Polygon {
	return gon(of(0, 0, 1, 0), "0 0 0; 4 0 0; 4 4 0; 0 4 0")
}

// starting returns p with its vertices in the same cyclic order, starting at index k.
func starting(p api.Polygon, k int) api.Polygon {
	return api.Polygon{Plane: p.Plane, Vertices: append(slices.Clone(p.Vertices[k:]), p.Vertices[:k]...)}
}

// same reports whether a and b are equal.
func same(a, b api.Polygon) bool {
	return a.Plane == b.Plane && slices.Equal(a.Vertices, b.Vertices)
}

// show returns the texts of the plane and the vertices of p.
func show(p api.Polygon) string {
	texts := []string{plane.Format(p.Plane)}
	for _, x := range p.Vertices {
		texts = append(texts, point.Format(x))
	}
	return strings.Join(texts, " ")
}

// showVector returns the text of v.
func showVector(v api.Vec3) string {
	return rational.Format(v[0]) + " " + rational.Format(v[1]) + " " + rational.Format(v[2])
}

// spot is a point of a plane, by its coordinates there.
type spot [2]*big.Rat

// spots returns the points of a plane with the texts of their coordinates, separated by semicolons.
func spots(text string) []spot {
	var list []spot
	for part := range strings.SplitSeq(text, ";") {
		fields := strings.Fields(part)
		list = append(list, spot{number(fields[0]), number(fields[1])})
	}
	return list
}

// frame is a plane in space with coordinates. Its front is where right, up and the front are like the axes x, y and z.
type frame struct{ origin, right, up vector }

// plane returns the plane of f.
func (f frame) plane() api.Plane {
	n := cross(f.right, f.up)
	p, ok := canonical(equation{n[0], n[1], n[2], product(n, f.origin)})
	if !ok {
		panic("no frame")
	}
	return p
}

// point returns the point in space.
func (f frame) point(x spot) api.Point {
	return fromVector(combine(combine(f.origin, f.right, x[0]), f.up, x[1]))
}

// polygon returns the polygon in space.
func (f frame) polygon(list []spot) api.Polygon {
	p := api.Polygon{Plane: f.plane()}
	for _, x := range list {
		p.Vertices = append(p.Vertices, f.point(x))
	}
	return p
}

// frames returns planes that are parallel to coordinate planes, seen from both sides, tilted ones, and some with
// fractions and large numbers.
func frames() []frame {
	return []frame{
		{vec("0 0 0"), vec("1 0 0"), vec("0 1 0")}, {vec("1 2 3"), vec("0 1 0"), vec("1 0 0")}, {vec("-2 0 1"), vec("0 2 0"), vec("0 0 1/2")}, {vec("0 7/3 0"), vec("1 0 0"), vec("0 0 1")},
		{vec("1 0 0"), vec("-1 1 0"), vec("-1 0 1")}, {vec("1/2 -1/3 7/5"), vec("2/3 1 -1/7"), vec("0 -5/4 3")}, {vec("0 0 0"), vec("1 1 1"), vec("-1 2 1/1000")},
		{vec("18446744073709551616 -1/18446744073709551615 1/3"), vec("1000000007 1/998244353 -3"), vec("-2/65537 4294967296 7")},
	}
}

// shapes returns convex polygons of 3 to 9 vertices, in counterclockwise order.
func shapes() [][]spot {
	return [][]spot{
		spots("0 0; 4 0; 0 4"), spots("0 0; 1000 0; 1000 1/1000"), spots("0 0; 4 0; 4 4; 0 4"), spots("-1 -1; 3 -1/2; 2 2; -1/3 5/3"), spots("0 0; 3 0; 4 2; 2 3; -1 2"),
		spots("2 0; 4 0; 6 2; 5 4; 3 4; 1 2"), spots("0 0; 1 1/7; 2 4/7; 3 9/7; 4 16/7; 5 25/7; 6 36/7; 7 7; 8 64/7"),
	}
}

// valid returns valid polygons, which start at different vertices.
func valid() []api.Polygon {
	var list []api.Polygon
	for i, f := range frames() {
		for j, shape := range shapes() {
			p := f.polygon(shape)
			list = append(list, starting(p, (i+j)%len(p.Vertices)))
		}
	}
	return list
}

// hull returns the vertices of the convex hull of the points, in counterclockwise order, without points on its edges. It
// has fewer than three if the points are on a line.
func hull(list []spot) []spot {
	order := func(a, b spot) int {
		if c := a[0].Cmp(b[0]); c != 0 {
			return c
		}
		return a[1].Cmp(b[1])
	}
	// area is the sign of the area of a triangle.
	area := func(a, b, c spot) int {
		x := new(big.Rat).Mul(new(big.Rat).Sub(b[0], a[0]), new(big.Rat).Sub(c[1], a[1]))
		return x.Cmp(new(big.Rat).Mul(new(big.Rat).Sub(b[1], a[1]), new(big.Rat).Sub(c[0], a[0])))
	}
	sorted := slices.Clone(list)
	slices.SortFunc(sorted, order)
	sorted = slices.CompactFunc(sorted, func(a, b spot) bool { return order(a, b) == 0 })
	half := func() []spot {
		var chain []spot
		for _, x := range sorted {
			for len(chain) > 1 && area(chain[len(chain)-2], chain[len(chain)-1], x) <= 0 {
				chain = chain[:len(chain)-1]
			}
			chain = append(chain, x)
		}
		return chain[:len(chain)-1]
	}
	lower := half()
	slices.Reverse(sorted)
	return append(lower, half()...)
}

// randomSpots returns points with fractions as coordinates.
func randomSpots(r *rand.Rand, count int, limit, denominator int64) []spot {
	var list []spot
	for range count {
		list = append(list, spot{big.NewRat(r.Int63n(limit), 1+r.Int63n(denominator)), big.NewRat(r.Int63n(limit), 1+r.Int63n(denominator))})
	}
	return list
}

// randomPolygon returns a valid polygon of up to count vertices.
func randomPolygon(r *rand.Rand, count int) api.Polygon {
	list := frames()
	for {
		shape := hull(randomSpots(r, 3+r.Intn(count-2), 2+r.Int63n(100), 1+r.Int63n(9)))
		if len(shape) > 2 {
			return starting(list[r.Intn(len(list))].polygon(shape), r.Intn(len(shape)))
		}
	}
}

// planeThrough returns the plane through three points, or false if they are on a line.
func planeThrough(a, b, c api.Point) (api.Plane, bool) {
	from := toVector(a)
	n := cross(difference(from, toVector(b)), difference(from, toVector(c)))
	return canonical(equation{n[0], n[1], n[2], product(n, from)})
}

// landmarks returns the vertices of p, the middles of its edges and diagonals, and points on the lines of its edges
// beyond both ends. p must have three vertices.
func landmarks(p api.Polygon) []api.Point {
	list := slices.Clone(p.Vertices)
	for i, a := range p.Vertices {
		along := difference(toVector(a), toVector(following(p, i)))
		for _, t := range []string{"1/2", "3/2", "-1/3"} {
			list = append(list, fromVector(combine(toVector(a), along, number(t))))
		}
		across := difference(toVector(a), toVector(p.Vertices[(i+2)%len(p.Vertices)]))
		list = append(list, fromVector(combine(toVector(a), across, big.NewRat(1, 2))))
	}
	return list
}

// around returns the points of p's plane in landmarks, and the points above and below the first vertex.
func around(p api.Polygon) []api.Point {
	first := toVector(p.Vertices[0])
	above, below := combine(first, normal(p.Plane), big.NewRat(1, 1)), combine(first, normal(p.Plane), big.NewRat(-1, 7))
	return append(landmarks(p), fromVector(above), fromVector(below))
}

// dividers returns planes that meet the plane of p in lines through two landmarks, so that they miss p, touch it in a
// vertex or along an edge, or divide it at vertices and edges. Among them are planes parallel to p, and p's own. At most
// about count lines are used.
func dividers(p api.Polygon, count int) []api.Plane {
	list := []api.Plane{p.Plane, expectedFlip(p).Plane}
	marks, first := landmarks(p), toVector(p.Vertices[0])
	above := fromVector(combine(first, combine(normal(p.Plane), vec("1/2 -1 1/3"), big.NewRat(1, 5)), big.NewRat(1, 1)))
	below := fromVector(combine(first, normal(p.Plane), big.NewRat(-1, 3)))
	step := 1 + len(marks)*(len(marks)-1)/(2*count)
	k := 0
	for i, a := range marks {
		for _, b := range marks[:i] {
			if k++; k%step != 0 {
				continue
			}
			for _, by := range [][3]api.Point{{a, b, above}, {b, a, below}} {
				if q, ok := planeThrough(by[0], by[1], by[2]); ok {
					list = append(list, q)
				}
			}
		}
	}
	for _, d := range []int64{-5, 7} {
		e := toEquation(p.Plane)
		e[3] = new(big.Rat).Add(e[3], big.NewRat(d, 3))
		q, _ := canonical(e)
		list = append(list, q, of(1, 0, 0, d), of(d, -1, 0, 3), of(0, d, 2, -2))
	}
	return list
}
