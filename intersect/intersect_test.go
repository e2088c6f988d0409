package intersect_test

import (
	"math/big"
	"math/rand"
	"slices"
	"strings"
	"testing"

	"voussoir/api"
	"voussoir/intersect"
	"voussoir/plane"
	"voussoir/point"
)

// vector is a vector or a point with Cartesian coordinates, computed without the layers under test.
type vector [3]*big.Rat

// equation holds A, B, C and D of A*x + B*y + C*z = D, also computed without the layers under test.
type equation [4]*big.Rat

// natural returns the number that a magnitude represents.
func natural(magnitude string) *big.Int {
	bytes := []byte(magnitude)
	slices.Reverse(bytes)
	return new(big.Int).SetBytes(bytes)
}

// magnitude returns the magnitude of n without trailing zero bytes.
func magnitude(n *big.Int) string {
	bytes := n.Bytes()
	slices.Reverse(bytes)
	return string(bytes)
}

// bigInt returns the number that x represents, in whatever form x is.
func bigInt(x api.Int) *big.Int {
	n := natural(x.Mag)
	if x.Neg {
		n.Neg(n)
	}
	return n
}

// fromBigInt returns n in canonical form.
func fromBigInt(n *big.Int) api.Int {
	return api.Int{Neg: n.Sign() < 0, Mag: magnitude(n)}
}

// orOne returns n, or 1 if n is zero.
func orOne(n *big.Int) *big.Int {
	if n.Sign() == 0 {
		return big.NewInt(1)
	}
	return n
}

// number returns the rational number with the text s.
func number(s string) *big.Rat {
	n, ok := new(big.Rat).SetString(s)
	if !ok {
		panic(s)
	}
	return n
}

// coprime returns the numbers divided by a positive number, such that they are integers without a common divisor.
func coprime(numbers []*big.Rat) []api.Int {
	common, divisor := big.NewInt(1), new(big.Int)
	for _, x := range numbers {
		common.Mul(common, x.Denom())
	}
	var integers []*big.Int
	for _, x := range numbers {
		n := new(big.Rat).Mul(x, new(big.Rat).SetInt(common)).Num()
		divisor.GCD(nil, nil, divisor, new(big.Int).Abs(n))
		integers = append(integers, n)
	}
	var result []api.Int
	for _, n := range integers {
		result = append(result, fromBigInt(new(big.Int).Quo(n, orOne(divisor))))
	}
	return result
}

// canonical returns the plane with the equation e in canonical form, or false if A, B and C are 0.
func canonical(e equation) (api.Plane, bool) {
	if e[0].Sign() == 0 && e[1].Sign() == 0 && e[2].Sign() == 0 {
		return api.Plane{}, false
	}
	c := coprime(e[:])
	return api.Plane{A: c[0], B: c[1], C: c[2], D: c[3]}, true
}

// toEquation returns the equation of p, in whatever form p is.
func toEquation(p api.Plane) equation {
	var e equation
	for i, x := range []api.Int{p.A, p.B, p.C, p.D} {
		e[i] = new(big.Rat).SetInt(bigInt(x))
	}
	return e
}

// toVector returns the Cartesian coordinates of p.
func toVector(p api.Point) vector {
	w := orOne(bigInt(p.W))
	return vector{new(big.Rat).SetFrac(bigInt(p.X), w), new(big.Rat).SetFrac(bigInt(p.Y), w), new(big.Rat).SetFrac(bigInt(p.Z), w)}
}

// fromVector returns the point with the coordinates v in canonical form.
func fromVector(v vector) api.Point {
	c := coprime(append(v[:], big.NewRat(1, 1)))
	return api.Point{X: c[0], Y: c[1], Z: c[2], W: c[3]}
}

// combine returns x + k * y.
func combine(x, y vector, k *big.Rat) vector {
	var sum vector
	for i := range sum {
		sum[i] = new(big.Rat).Mul(k, y[i])
		sum[i].Add(sum[i], x[i])
	}
	return sum
}

// product returns the scalar product of x and y.
func product(x, y vector) *big.Rat {
	sum := new(big.Rat)
	for i := range x {
		sum.Add(sum, new(big.Rat).Mul(x[i], y[i]))
	}
	return sum
}

// normal returns A, B and C.
func normal(e equation) vector {
	return vector{e[0], e[1], e[2]}
}

// excess returns A*x + B*y + C*z - D.
func excess(e equation, x vector) *big.Rat {
	return new(big.Rat).Sub(product(normal(e), x), e[3])
}

// of returns the plane with the given coefficients, as they are.
func of(a, b, c, d int64) api.Plane {
	return api.Plane{A: fromBigInt(big.NewInt(a)), B: fromBigInt(big.NewInt(b)), C: fromBigInt(big.NewInt(c)), D: fromBigInt(big.NewInt(d))}
}

// at returns the point with the coordinates with the texts x, y and z in canonical form.
func at(x, y, z string) api.Point {
	return fromVector(vector{number(x), number(y), number(z)})
}

// randomInt returns an integer of up to size bytes, in any form. Zeros and small bytes are frequent.
func randomInt(r *rand.Rand, size int) api.Int {
	bytes := make([]byte, r.Intn(size+1))
	for i := range bytes {
		bytes[i] = []byte{0, 1, 2, 6, 0xff, byte(r.Intn(256)), byte(r.Intn(256))}[r.Intn(7)]
	}
	return api.Int{Neg: r.Intn(2) == 0, Mag: string(bytes)}
}

// randomCoefficients returns a plane with magnitudes of up to size bytes, in any form and perhaps invalid.
func randomCoefficients(r *rand.Rand, size int) api.Plane {
	return api.Plane{A: randomInt(r, size), B: randomInt(r, size), C: randomInt(r, size), D: randomInt(r, size)}
}

// randomPlane returns a plane in canonical form whose coefficients had up to size bytes.
func randomPlane(r *rand.Rand, size int) api.Plane {
	for {
		if p, ok := canonical(toEquation(randomCoefficients(r, size))); ok {
			return p
		}
	}
}

// randomPoint returns a point in canonical form whose integers had up to size bytes.
func randomPoint(r *rand.Rand, size int) api.Point {
	return fromVector(toVector(api.Point{X: randomInt(r, size), Y: randomInt(r, size), Z: randomInt(r, size), W: randomInt(r, size)}))
}

// difference returns y - x.
func difference(x, y vector) vector {
	return combine(y, x, big.NewRat(-1, 1))
}

// cross returns the cross product of x and y.
func cross(x, y vector) vector {
	minor := func(i, j int) *big.Rat {
		return new(big.Rat).Sub(new(big.Rat).Mul(x[i], y[j]), new(big.Rat).Mul(x[j], y[i]))
	}
	return vector{minor(1, 2), minor(2, 0), minor(0, 1)}
}

// compare compares points lexicographically.
func compare(x, y vector) int {
	return slices.CompareFunc(x[:], y[:], (*big.Rat).Cmp)
}

// subtract returns the equation x minus the equation y, multiplied by k.
func subtract(x, y equation, k *big.Rat) equation {
	for i := range x {
		x[i] = new(big.Rat).Sub(x[i], new(big.Rat).Mul(k, y[i]))
	}
	return x
}

// solve returns the only solution of three equations, found by elimination, or false if there is not exactly one.
func solve(system [3]equation) (vector, bool) {
	for column := range 3 {
		pivot := column
		for system[pivot][column].Sign() == 0 {
			if pivot++; pivot == 3 {
				return vector{}, false
			}
		}
		system[column], system[pivot] = system[pivot], system[column]
		for row := range 3 {
			if row != column {
				system[row] = subtract(system[row], system[column], new(big.Rat).Quo(system[row][column], system[column][column]))
			}
		}
	}
	var x vector
	for i := range x {
		x[i] = new(big.Rat).Quo(system[i][3], system[i][i])
	}
	return x, true
}

// crossing returns the point a + t * (b - a) of the plane e, or false if there is not exactly one such t.
func crossing(e equation, a, b vector) (vector, bool) {
	direction := difference(a, b)
	slope := product(normal(e), direction)
	if slope.Sign() == 0 {
		return vector{}, false
	}
	return combine(a, direction, new(big.Rat).Quo(new(big.Rat).Neg(excess(e, a)), slope)), true
}

// volume returns six times the oriented volume of the tetrahedron, which has the sign of Orient.
func volume(a, b, c, d vector) *big.Rat {
	return product(cross(difference(a, b), difference(a, c)), difference(a, d))
}

// straight reports whether three points are collinear.
func straight(a, b, c vector) bool {
	return compare(cross(difference(a, b), difference(a, c)), vector{new(big.Rat), new(big.Rat), new(big.Rat)}) == 0
}

// parameter returns the t with x = a + t * (b - a), or false if there is not exactly one.
func parameter(a, b, x vector) (*big.Rat, bool) {
	direction, t := difference(a, b), new(big.Rat)
	for i := range direction {
		if direction[i].Sign() != 0 {
			t.Quo(new(big.Rat).Sub(x[i], a[i]), direction[i])
			return t, compare(combine(a, direction, t), x) == 0
		}
	}
	return nil, false
}

// inside reports whether x is strictly between a and b.
func inside(a, b, x vector) bool {
	t, ok := parameter(a, b, x)
	return ok && t.Sign() > 0 && t.Cmp(big.NewRat(1, 1)) < 0
}

// common returns the ends of the common part of two segments, or false if it is not a segment.
func common(a, b, c, d vector) ([2]vector, bool) {
	s, first := parameter(a, b, c)
	t, second := parameter(a, b, d)
	if !first || !second {
		return [2]vector{}, false
	}
	parameters := []*big.Rat{s, t}
	slices.SortFunc(parameters, (*big.Rat).Cmp)
	if parameters[0].Sign() < 0 {
		parameters[0] = new(big.Rat)
	}
	if one := big.NewRat(1, 1); parameters[1].Cmp(one) > 0 {
		parameters[1] = one
	}
	if parameters[0].Cmp(parameters[1]) >= 0 {
		return [2]vector{}, false
	}
	ends := [2]vector{combine(a, difference(a, b), parameters[0]), combine(a, difference(a, b), parameters[1])}
	slices.SortFunc(ends[:], compare)
	return ends, true
}

// show returns the texts of points.
func show(list ...api.Point) string {
	var texts []string
	for _, x := range list {
		texts = append(texts, point.Format(x))
	}
	return strings.Join(texts, " ")
}

// showPlanes returns the texts of planes.
func showPlanes(list ...api.Plane) string {
	var texts []string
	for _, p := range list {
		texts = append(texts, plane.Format(p))
	}
	return strings.Join(texts, " ")
}

// checkPlanes compares ThreePlanes with the solution of the equations, and returns whether there is exactly one.
func checkPlanes(t *testing.T, a, b, c api.Plane) bool {
	t.Helper()
	var want api.Point
	x, one := solve([3]equation{toEquation(a), toEquation(b), toEquation(c)})
	if one {
		want = fromVector(x)
	}
	if got, ok := intersect.ThreePlanes(a, b, c); got != want || ok != one {
		t.Fatalf("ThreePlanes(%s) = %#v, %v, want %#v, %v", showPlanes(a, b, c), got, ok, want, one)
	}
	return one
}

// checkLine compares LinePlane with the parameter of the common point, and returns whether there is exactly one.
func checkLine(t *testing.T, p api.Plane, a, b api.Point) bool {
	t.Helper()
	var want api.Point
	x, one := crossing(toEquation(p), toVector(a), toVector(b))
	if one {
		want = fromVector(x)
	}
	if got, ok := intersect.LinePlane(p, a, b); got != want || ok != one {
		t.Fatalf("LinePlane(%s, %s) = %#v, %v, want %#v, %v", showPlanes(p), show(a, b), got, ok, want, one)
	}
	return one
}

// checkOrient compares Orient with the sign of a volume, and returns it.
func checkOrient(t *testing.T, a, b, c, d api.Point) int {
	t.Helper()
	got, want := intersect.Orient(a, b, c, d), volume(toVector(a), toVector(b), toVector(c), toVector(d)).Sign()
	if got != want {
		t.Fatalf("Orient(%s) = %d, want %d", show(a, b, c, d), got, want)
	}
	return want
}

// checkCollinear compares Collinear with a cross product, and returns whether it vanishes.
func checkCollinear(t *testing.T, a, b, c api.Point) bool {
	t.Helper()
	got, want := intersect.Collinear(a, b, c), straight(toVector(a), toVector(b), toVector(c))
	if got != want {
		t.Fatalf("Collinear(%s) = %v, want %v", show(a, b, c), got, want)
	}
	return want
}

// checkBetween compares Between with the parameter of x, and returns whether it is from 0 to 1.
func checkBetween(t *testing.T, a, b, x api.Point) bool {
	t.Helper()
	got, want := intersect.Between(a, b, x), inside(toVector(a), toVector(b), toVector(x))
	if got != want {
		t.Fatalf("Between(%s) = %v, want %v", show(a, b, x), got, want)
	}
	return want
}

// checkOverlap compares Overlap with the common parameters, and returns whether they are an interval.
func checkOverlap(t *testing.T, a, b, c, d api.Point) bool {
	t.Helper()
	var want [2]api.Point
	ends, overlap := common(toVector(a), toVector(b), toVector(c), toVector(d))
	if overlap {
		want = [2]api.Point{fromVector(ends[0]), fromVector(ends[1])}
	}
	if low, high, ok := intersect.Overlap(a, b, c, d); [2]api.Point{low, high} != want || ok != overlap {
		t.Fatalf("Overlap(%s) = %#v, %#v, %v, want %#v, %v", show(a, b, c, d), low, high, ok, want, overlap)
	}
	return overlap
}

// alongLine returns the point a + t * (b - a) in canonical form.
func alongLine(a, b api.Point, t *big.Rat) api.Point {
	return fromVector(combine(toVector(a), difference(toVector(a), toVector(b)), t))
}

// inPlane returns the point a + s * (b - a) + t * (c - a) in canonical form.
func inPlane(a, b, c api.Point, s, t *big.Rat) api.Point {
	return fromVector(combine(toVector(alongLine(a, b, s)), difference(toVector(a), toVector(c)), t))
}

// pencil returns a plane in canonical form with the points that are common to a and b, if it has a normal: the sum of
// their equations multiplied by j and k, translated by shift.
func pencil(a, b api.Plane, j, k, shift int64) api.Plane {
	sum := subtract(subtract(equation{new(big.Rat), new(big.Rat), new(big.Rat), big.NewRat(shift, 1)}, toEquation(a), big.NewRat(-j, 1)), toEquation(b), big.NewRat(-k, 1))
	p, ok := canonical(sum)
	if !ok {
		return b
	}
	return p
}

// smallInt returns an integer from -3 to 3.
func smallInt(r *rand.Rand) int64 {
	return r.Int63n(7) - 3
}

// smallRat returns a number from -3 to 3.
func smallRat(r *rand.Rand) *big.Rat {
	return big.NewRat(smallInt(r), r.Int63n(3)+1)
}

// planes returns planes in canonical form: combinations of small coefficients, and some with large ones.
func planes() []api.Plane {
	var list []api.Plane
	for a := range int64(3) {
		for b := range int64(3) {
			for _, rest := range [][2]int64{{0, 0}, {0, 2}, {1, 0}, {2, -3}} {
				if p, ok := canonical(toEquation(of(a-1, b-1, rest[0], rest[1]))); ok {
					list = append(list, p)
				}
			}
		}
	}
	for _, texts := range [][4]string{
		{"255", "-256", "257", "1000"}, {"1/3", "2/5", "-3/7", "100"}, {"1", "0", "-1/1000", "1/1000000"}, {"18446744073709551616", "18446744073709551615", "-1", "1/18446744073709551616"},
	} {
		p, _ := canonical(equation{number(texts[0]), number(texts[1]), number(texts[2]), number(texts[3])})
		list = append(list, p)
	}
	return list
}

// points returns points in canonical form: combinations of small coordinates, and some with large ones.
func points() []api.Point {
	list := []api.Point{at("1000", "-1000", "999999/1000"), at("18446744073709551616", "1/18446744073709551615", "-1/3"), at("2", "2", "2"), at("3/4", "1/2", "0")}
	for _, x := range []string{"0", "1"} {
		for _, y := range []string{"0", "1", "-1/2"} {
			for _, z := range []string{"0", "1"} {
				list = append(list, at(x, y, z))
			}
		}
	}
	return list
}

// threePlanes calls check with planes in canonical form, up to many bytes, which often have no or several common points.
func threePlanes(check func(a, b, c api.Plane)) {
	for _, a := range planes() {
		for _, b := range planes() {
			for _, c := range planes() {
				check(a, b, c)
			}
		}
	}
	r := rand.New(rand.NewSource(1))
	for i := range 1000 {
		a, b, c := randomPlane(r, 1+i%20), randomPlane(r, 1+i%20), randomPlane(r, 1+i%20)
		check(a, b, c)
		check(a, b, pencil(a, b, smallInt(r), smallInt(r), smallInt(r)))
		check(pencil(b, c, 1, smallInt(r), 0), b, c)
		check(a, pencil(a, c, 1, 0, smallInt(r)), c)
	}
	check(randomPlane(r, 100), randomPlane(r, 100), randomPlane(r, 100))
}

// lines calls check with planes and points in canonical form, up to many bytes. The line through the points often lies in
// the plane or is parallel to it.
func lines(check func(p api.Plane, a, b api.Point)) {
	for _, p := range planes() {
		for _, a := range points() {
			for _, b := range points() {
				check(p, a, b)
			}
		}
	}
	r := rand.New(rand.NewSource(2))
	for i := range 1000 {
		a, b, c := randomPoint(r, 1+i%12), randomPoint(r, 1+i%12), randomPoint(r, 1+i%12)
		check(randomPlane(r, 1+i%12), a, b)
		normal := cross(difference(toVector(a), toVector(b)), difference(toVector(a), toVector(c)))
		level := product(normal, toVector(a))
		if p, ok := canonical(equation{normal[0], normal[1], normal[2], level}); ok {
			check(p, inPlane(a, b, c, smallRat(r), smallRat(r)), inPlane(a, b, c, smallRat(r), smallRat(r)))
			p, _ = canonical(equation{normal[0], normal[1], normal[2], level.Add(level, smallRat(r))})
			check(p, a, b)
			check(p, inPlane(a, b, c, smallRat(r), smallRat(r)), randomPoint(r, 2))
		}
	}
	check(randomPlane(r, 100), randomPoint(r, 100), randomPoint(r, 100))
}

// segments calls check with two distinct points in canonical form, up to many bytes.
func segments(check func(a, b api.Point)) {
	for _, a := range points() {
		for _, b := range points() {
			if a != b {
				check(a, b)
			}
		}
	}
	r := rand.New(rand.NewSource(5))
	for i := range 1000 {
		if a, b := randomPoint(r, 1+i%12), randomPoint(r, 1+i%12); a != b {
			check(a, b)
		}
	}
}

// triples calls check with three points in canonical form, up to many bytes, which are often collinear.
func triples(check func(a, b, c api.Point)) {
	for _, a := range points() {
		for _, b := range points() {
			for _, c := range points() {
				check(a, b, c)
			}
		}
	}
	r := rand.New(rand.NewSource(3))
	for i := range 2000 {
		a, b := randomPoint(r, 1+i%20), randomPoint(r, 1+i%20)
		check(a, b, randomPoint(r, 1+i%20))
		check(a, b, alongLine(a, b, smallRat(r)))
		check(a, b, alongLine(a, b, big.NewRat(r.Int63n(1000), 999)))
	}
	check(randomPoint(r, 100), randomPoint(r, 100), randomPoint(r, 100))
}

// quadruples calls check with four points in canonical form, up to many bytes, which often lie in one plane or on one
// line.
func quadruples(check func(a, b, c, d api.Point)) {
	for _, a := range points() {
		for _, b := range points() {
			for _, c := range points()[2:] {
				for _, d := range points()[3:] {
					check(a, b, c, d)
				}
			}
		}
	}
	r := rand.New(rand.NewSource(4))
	for i := range 1000 {
		a, b, c := randomPoint(r, 1+i%12), randomPoint(r, 1+i%12), randomPoint(r, 1+i%12)
		check(a, b, c, randomPoint(r, 1+i%12))
		check(a, b, c, inPlane(a, b, c, smallRat(r), smallRat(r)))
		check(a, b, c, alongLine(a, b, smallRat(r)))
		check(a, b, alongLine(a, b, smallRat(r)), c)
		check(a, b, alongLine(a, b, smallRat(r)), alongLine(a, b, smallRat(r)))
	}
	check(randomPoint(r, 100), randomPoint(r, 100), randomPoint(r, 100), randomPoint(r, 100))
}

// P6.1

func TestThreePlanes(t *testing.T) {
	for _, c := range []struct {
		a, b, c api.Plane
		want    api.Point
	}{
		{of(1, 0, 0, 2), of(0, 1, 0, 3), of(0, 0, 1, 4), at("2", "3", "4")}, {of(0, 0, 1, 4), of(1, 0, 0, 2), of(0, 1, 0, 3), at("2", "3", "4")}, {of(0, 1, 0, 3), of(1, 0, 0, 2), of(0, 0, 1, 4), at("2", "3", "4")},
		{of(-1, 0, 0, -2), of(0, -1, 0, -3), of(0, 0, -1, -4), at("2", "3", "4")}, {of(-1, 0, 0, -2), of(0, 1, 0, 3), of(0, 0, 1, 4), at("2", "3", "4")},
		{of(2, 0, 0, 1), of(0, 3, 0, -1), of(0, 0, 5, 0), at("1/2", "-1/3", "0")}, {of(1, 1, 0, 1), of(1, -1, 0, 0), of(0, 0, -3, 1), at("1/2", "1/2", "-1/3")},
		{of(1, 1, 1, 6), of(1, -1, 0, -1), of(0, 1, -1, -1), at("1", "2", "3")}, {of(1, 2, 3, 0), of(-4, 5, 6, 0), of(7, 8, -9, 0), at("0", "0", "0")},
		{of(1, 1, 0, 3), of(0, 1, 1, 5), of(1, 0, 1, 4), at("1", "2", "3")}, {of(256, 0, 1, 257), of(0, 256, 1, 1), of(0, 0, 255, 255), at("1", "0", "1")},
		{of(0, 0, -1, 1000), of(0, 1, 0, -1000), of(3, 0, 0, 1), at("1/3", "-1000", "-1000")},
	} {
		if got, ok := intersect.ThreePlanes(c.a, c.b, c.c); !ok || got != c.want {
			t.Errorf("ThreePlanes(%s) = %s, %v, want %s", showPlanes(c.a, c.b, c.c), show(got), ok, show(c.want))
		}
	}
	met := map[bool]int{}
	threePlanes(func(a, b, c api.Plane) {
		met[checkPlanes(t, a, b, c)]++
	})
	if min(met[false], met[true]) < 5000 {
		t.Errorf("planes with exactly one point: %v", met)
	}
}

func TestThreePlanesWithoutPoint(t *testing.T) {
	for _, c := range [][3]api.Plane{
		{of(1, 0, 0, 2), of(1, 0, 0, 2), of(1, 0, 0, 2)}, {of(1, 0, 0, 2), of(1, 0, 0, 2), of(0, 1, 0, 3)}, {of(1, 0, 0, 2), of(0, 1, 0, 3), of(0, 1, 0, 3)}, {of(0, 1, 0, 3), of(1, 0, 0, 2), of(0, 1, 0, 3)},
		{of(1, 0, 0, 2), of(-1, 0, 0, -2), of(0, 0, 1, 4)}, {of(1, 0, 0, 2), of(-1, 0, 0, -2), of(1, 0, 0, 2)}, {of(1, 0, 0, 2), of(1, 0, 0, 3), of(0, 0, 1, 4)}, {of(1, 0, 0, 2), of(-1, 0, 0, 3), of(0, 0, 1, 4)},
		{of(1, 0, 0, 2), of(1, 0, 0, 3), of(1, 0, 0, 4)}, {of(1, 0, 0, 2), of(1, 0, 0, 2), of(1, 0, 0, 4)}, {of(0, 0, 1, 4), of(1, 2, 3, 4), of(2, 4, 6, 9)}, {of(1, 2, 3, 4), of(0, 1, 0, 0), of(-3, -6, -9, 1)},
		{of(1, 0, 0, 0), of(0, 1, 0, 0), of(1, 1, 0, 0)}, {of(1, 0, 0, 2), of(0, 1, 0, 3), of(1, 1, 0, 5)}, {of(1, 0, 0, 2), of(0, 1, 0, 3), of(2, -7, 0, -17)}, {of(1, 1, 1, 1), of(1, 2, 3, 4), of(2, 3, 4, 5)},
		{of(1, 0, 0, 0), of(0, 1, 0, 0), of(1, 1, 0, 1)}, {of(1, 0, 0, 2), of(0, 1, 0, 3), of(1, 1, 0, 6)}, {of(1, 1, 1, 1), of(1, 2, 3, 4), of(2, 3, 4, 6)}, {of(0, 1, -1, 0), of(0, 1, 1, 0), of(0, 0, 1, 1)},
	} {
		if got, ok := intersect.ThreePlanes(c[0], c[1], c[2]); ok || got != (api.Point{}) {
			t.Errorf("ThreePlanes(%s) = %#v, %v, want false", showPlanes(c[:]...), got, ok)
		}
	}
}

func TestLinePlane(t *testing.T) {
	for _, c := range []struct {
		p          api.Plane
		a, b, want api.Point
	}{
		{of(0, 0, 1, 1), at("0", "0", "0"), at("1", "1", "2"), at("1/2", "1/2", "1")}, {of(0, 0, 1, 1), at("1", "1", "2"), at("0", "0", "0"), at("1/2", "1/2", "1")}, {of(0, 0, -1, -1), at("0", "0", "0"), at("1", "1", "2"), at("1/2", "1/2", "1")},
		{of(0, 0, 1, 9), at("1/2", "0", "0"), at("1/2", "1/2", "1"), at("1/2", "9/2", "9")}, {of(0, 0, 1, -9), at("1/2", "0", "0"), at("1/2", "1/2", "1"), at("1/2", "-9/2", "-9")},
		{of(1, 0, 0, 3), at("3", "7", "8"), at("4", "0", "0"), at("3", "7", "8")}, {of(1, 0, 0, 3), at("4", "0", "0"), at("3", "7", "8"), at("3", "7", "8")},
		{of(1, 1, 1, 1), at("0", "0", "0"), at("1", "2", "3"), at("1/6", "1/3", "1/2")}, {of(1, 1, 1, 1), at("1/2", "1/3", "1/5"), at("1/7", "1/3", "1/5"), at("7/15", "1/3", "1/5")},
		{of(3, -2, 6, 12), at("0", "0", "0"), at("0", "-1/3", "0"), at("0", "-6", "0")}, {of(0, 5, 0, 2), at("1000", "-1000", "1000"), at("-1000", "1000", "0"), at("-2/5", "2/5", "2499/5")},
		{of(2, 0, 0, 1), at("0", "1", "1"), at("1", "1", "1"), at("1/2", "1", "1")},
	} {
		if got, ok := intersect.LinePlane(c.p, c.a, c.b); !ok || got != c.want {
			t.Errorf("LinePlane(%s, %s) = %s, %v, want %s", showPlanes(c.p), show(c.a, c.b), show(got), ok, show(c.want))
		}
	}
	met := map[bool]int{}
	lines(func(p api.Plane, a, b api.Point) {
		met[checkLine(t, p, a, b)]++
	})
	if min(met[false], met[true]) < 1000 {
		t.Errorf("lines with exactly one point: %v", met)
	}
}

func TestLinePlaneWithoutPoint(t *testing.T) {
	for _, c := range []struct {
		p    api.Plane
		a, b api.Point
	}{
		{of(0, 0, 1, 1), at("0", "0", "0"), at("5", "7", "0")}, {of(0, 0, 1, 1), at("0", "0", "2"), at("5", "7", "2")}, {of(0, 0, 1, 1), at("0", "0", "1"), at("5", "7", "1")}, {of(0, 0, -1, -1), at("0", "0", "1"), at("5", "7", "1")},
		{of(1, 1, 1, 1), at("1", "0", "0"), at("0", "1/2", "1/2")}, {of(1, 1, 1, 1), at("1", "0", "0"), at("2", "-1", "0")}, {of(1, 1, 1, 1), at("1/2", "0", "0"), at("0", "1/3", "1/6")}, {of(1, 1, 1, 1), at("0", "0", "0"), at("1/7", "0", "-1/7")},
		{of(0, 0, 1, 1), at("1/2", "1/2", "1/2"), at("1/2", "1/2", "1/2")}, {of(0, 0, 2, 1), at("1/2", "1/2", "1/2"), at("1/2", "1/2", "1/2")}, {of(0, 0, 1, 0), at("0", "0", "0"), at("0", "0", "0")}, {of(3, -2, 6, 12), at("0", "0", "0"), at("0", "0", "0")},
		{of(3, -2, 6, 12), at("1/5", "1/3", "-1/7"), at("1/5", "1/3", "-1/7")}, {of(1, 0, 0, -1000), at("-1000", "0", "0"), at("-1000", "0", "0")},
	} {
		if got, ok := intersect.LinePlane(c.p, c.a, c.b); ok || got != (api.Point{}) {
			t.Errorf("LinePlane(%s, %s) = %#v, %v, want false", showPlanes(c.p), show(c.a, c.b), got, ok)
		}
	}
}

func TestOrient(t *testing.T) {
	o, x, y, z := at("0", "0", "0"), at("1", "0", "0"), at("0", "1", "0"), at("0", "0", "1")
	for _, c := range []struct {
		a, b, c, d api.Point
		want       int
	}{
		{o, x, y, z, 1}, {o, y, x, z, -1}, {o, x, y, at("7", "-9", "1/1000"), 1}, {o, x, y, at("7", "-9", "-1/1000"), -1}, {o, y, x, at("7", "-9", "-1/1000"), 1}, {o, x, y, at("5/2", "3/2", "0"), 0},
		{x, y, z, o, -1}, {x, y, z, at("1/2", "1/3", "1/7"), -1}, {x, y, z, at("1/2", "1/3", "1/6"), 0}, {x, y, z, at("1/2", "1/3", "1/5"), 1}, {z, y, x, at("1/2", "1/3", "1/5"), -1},
		{at("-3", "0", "0"), at("-3", "1", "0"), at("-3", "0", "1"), o, 1}, {at("-3", "0", "0"), at("-3", "1", "0"), at("-3", "0", "1"), at("-4", "0", "0"), -1},
		{o, x, at("3/2", "0", "0"), z, 0}, {o, x, at("-1", "0", "0"), x, 0}, {o, at("1/2", "1/3", "1/4"), at("6", "4", "3"), y, 0}, {o, o, x, y, 0}, {o, x, o, y, 0}, {x, o, o, y, 0}, {o, x, x, y, 0}, {x, x, x, y, 0}, {x, x, x, x, 0},
		{o, x, y, o, 0}, {o, x, y, x, 0}, {o, x, y, y, 0}, {o, x, at("2", "0", "0"), at("3", "0", "0"), 0},
	} {
		if got := intersect.Orient(c.a, c.b, c.c, c.d); got != c.want {
			t.Errorf("Orient(%s) = %d, want %d", show(c.a, c.b, c.c, c.d), got, c.want)
		}
	}
	count := map[int]int{}
	quadruples(func(a, b, c, d api.Point) {
		sign := checkOrient(t, a, b, c, d)
		count[sign]++
		p, ok := plane.Through(a, b, c)
		if ok && sign != plane.Side(p, d) || !ok && sign != 0 {
			t.Fatalf("Orient(%s) = %d, but the plane is %s", show(a, b, c, d), sign, showPlanes(p))
		}
	})
	if min(count[-1], count[0], count[1]) < 5000 {
		t.Errorf("points behind, on and in front: %v", count)
	}
}

func TestCollinear(t *testing.T) {
	o, x, y := at("0", "0", "0"), at("1", "0", "0"), at("0", "1", "0")
	for _, c := range []struct {
		a, b, c api.Point
		want    bool
	}{
		{o, x, y, false}, {o, x, at("-3/7", "0", "0"), true}, {o, x, at("1/2", "0", "1/1000"), false}, {o, x, at("1/2", "1/1000", "0"), false}, {o, y, at("1/1000", "1/2", "0"), false}, {at("1", "1", "1"), at("-1", "-1", "-1"), o, true},
		{o, o, o, true}, {x, x, x, true}, {o, o, x, true}, {o, x, o, true}, {x, o, o, true}, {x, x, y, true}, {x, y, x, true}, {y, x, x, true}, {at("1/2", "1/3", "1/5"), at("1/2", "1/3", "1/5"), at("7", "8", "9"), true},
		{x, y, at("1/2", "1/2", "0"), true}, {x, y, at("1/3", "2/3", "0"), true}, {x, y, at("1/3", "1/2", "0"), false}, {x, y, at("2", "-1", "0"), true}, {o, at("1/2", "1/3", "1/4"), at("6", "4", "3"), true}, {o, at("1/2", "1/3", "1/4"), at("6", "4", "2"), false},
		{at("1", "2", "3"), at("4", "5", "7"), at("7", "8", "11"), true}, {at("1", "2", "3"), at("4", "5", "7"), at("7", "8", "12"), false}, {at("1000", "1000", "1000"), at("-1000", "-1000", "-1000"), at("1/3", "1/3", "1/3"), true},
	} {
		if got := intersect.Collinear(c.a, c.b, c.c); got != c.want {
			t.Errorf("Collinear(%s) = %v, want %v", show(c.a, c.b, c.c), got, c.want)
		}
	}
	count := map[bool]int{}
	triples(func(a, b, c api.Point) {
		count[checkCollinear(t, a, b, c)]++
	})
	if min(count[false], count[true]) < 1000 {
		t.Errorf("collinear points: %v", count)
	}
}

func TestBetween(t *testing.T) {
	o, x, a, b := at("0", "0", "0"), at("1", "0", "0"), at("1", "2", "3"), at("-1/2", "1", "7/2")
	for _, c := range []struct {
		a, b, x api.Point
		want    bool
	}{
		{o, x, at("1/2", "0", "0"), true}, {x, o, at("1/2", "0", "0"), true}, {o, x, at("1/1000", "0", "0"), true}, {o, x, at("999/1000", "0", "0"), true},
		{o, x, o, false}, {o, x, x, false}, {x, o, x, false}, {x, o, o, false}, {o, x, at("2", "0", "0"), false}, {o, x, at("-1/1000", "0", "0"), false}, {x, o, at("1001/1000", "0", "0"), false},
		{o, x, at("1/2", "1", "0"), false}, {o, x, at("1/2", "0", "-1/1000"), false}, {o, x, at("1/2", "0", "1/1000"), false}, {o, x, at("1/2", "1/1000", "0"), false},
		{o, at("0", "0", "1"), at("0", "0", "1/3"), true}, {at("0", "0", "1"), o, at("0", "0", "1/3"), true}, {o, at("0", "-1", "0"), at("0", "-1/3", "0"), true}, {o, at("0", "-1", "0"), at("0", "1/3", "0"), false}, {o, at("0", "-1", "0"), at("0", "-4/3", "0"), false},
		{a, b, at("1/4", "3/2", "13/4"), true}, {b, a, at("1/4", "3/2", "13/4"), true}, {a, b, at("1/4", "3/2", "3"), false}, {a, b, at("5/2", "3", "5/2"), false}, {a, b, at("-2", "0", "4"), false},
		{at("3", "0", "1"), at("3", "2", "0"), at("3", "1", "1/2"), true}, {at("3", "0", "1"), at("3", "2", "0"), at("3", "1", "2"), false},
		{o, o, o, false}, {x, x, x, false}, {o, o, x, false}, {x, x, at("1/2", "0", "0"), false}, {a, a, b, false},
	} {
		if got := intersect.Between(c.a, c.b, c.x); got != c.want {
			t.Errorf("Between(%s) = %v, want %v", show(c.a, c.b, c.x), got, c.want)
		}
	}
	count := map[bool]int{}
	triples(func(a, b, c api.Point) {
		count[checkBetween(t, a, b, c)]++
	})
	if min(count[false], count[true]) < 500 {
		t.Errorf("points between others: %v", count)
	}
}

// directions returns pairs of points, of which the first is the lesser or the greater one.
func directions() [][2]api.Point {
	o, x, y, z := at("0", "0", "0"), at("1", "0", "0"), at("0", "1", "0"), at("0", "0", "1")
	a, b := at("1", "2", "3"), at("-1/2", "1", "7/2")
	return [][2]api.Point{{o, x}, {x, o}, {o, y}, {y, o}, {o, z}, {z, o}, {a, b}, {b, a}, {x, y}, {at("1/3", "1/3", "-1/3"), at("1/3", "-1/2", "1/5")}}
}

func TestOverlap(t *testing.T) {
	for _, c := range []struct {
		ends   [4]int64
		common [2]int64
	}{
		{[4]int64{0, 4, 2, 8}, [2]int64{2, 4}}, {[4]int64{2, 8, 0, 4}, [2]int64{2, 4}}, {[4]int64{0, 8, 2, 4}, [2]int64{2, 4}}, {[4]int64{2, 4, 0, 8}, [2]int64{2, 4}}, {[4]int64{-3, 5, -4, 1}, [2]int64{-3, 1}},
		{[4]int64{0, 4, 0, 4}, [2]int64{0, 4}}, {[4]int64{0, 4, 0, 8}, [2]int64{0, 4}}, {[4]int64{0, 8, 0, 4}, [2]int64{0, 4}}, {[4]int64{0, 8, 4, 8}, [2]int64{4, 8}}, {[4]int64{4, 8, 0, 8}, [2]int64{4, 8}}, {[4]int64{0, 4, 3, 5}, [2]int64{3, 4}},
	} {
		for i, line := range directions() {
			on := func(k int64) api.Point { return alongLine(line[0], line[1], big.NewRat(k, 3)) }
			a, b, c, d, low, high := on(c.ends[0]), on(c.ends[1]), on(c.ends[2]), on(c.ends[3]), on(c.common[0]), on(c.common[1])
			if point.Cmp(line[0], line[1]) > 0 {
				low, high = high, low
			}
			for _, ends := range [][4]api.Point{{a, b, c, d}, {b, a, c, d}, {a, b, d, c}, {b, a, d, c}, {c, d, a, b}, {d, c, a, b}, {c, d, b, a}, {d, c, b, a}} {
				if first, second, ok := intersect.Overlap(ends[0], ends[1], ends[2], ends[3]); !ok || first != low || second != high {
					t.Errorf("line %d: Overlap(%s) = %s, %v, want %s", i, show(ends[:]...), show(first, second), ok, show(low, high))
				}
			}
		}
	}
}

func TestNoOverlap(t *testing.T) {
	o, x, y, z := at("0", "0", "0"), at("1", "0", "0"), at("0", "1", "0"), at("0", "0", "1")
	cases := [][4]api.Point{
		{o, x, at("0", "0", "1"), at("1", "0", "1")}, {o, x, at("0", "1/1000", "0"), at("1", "1/1000", "0")}, {o, x, y, z}, {o, x, o, y}, {o, x, x, y}, {o, x, y, x}, {o, x, y, o}, {o, x, at("1/2", "0", "0"), y}, {o, x, y, at("1/2", "0", "0")},
		{o, x, at("1/2", "-1", "0"), at("1/2", "1", "0")}, {o, at("1", "1", "1"), o, at("1", "1", "2")}, {o, at("2", "2", "2"), at("1", "1", "0"), at("3", "3", "2")}, {o, x, at("1/2", "1", "0"), at("1/2", "1", "0")}, {y, y, o, x}, {o, x, z, z}, {x, x, y, y},
	}
	for _, line := range directions() {
		for _, ends := range [][4]int64{{0, 4, 4, 8}, {0, 4, 5, 8}, {-3, -2, 0, 4}, {-3, 0, 0, 4}, {0, 0, 0, 4}, {2, 2, 0, 4}, {4, 4, 0, 4}, {5, 5, 0, 4}, {0, 4, 2, 2}, {0, 4, 4, 4}, {0, 4, 0, 0}, {2, 2, 2, 2}, {0, 0, 1, 1}} {
			var points [4]api.Point
			for i, k := range ends {
				points[i] = alongLine(line[0], line[1], big.NewRat(k, 3))
			}
			cases = append(cases, points)
		}
	}
	for _, c := range cases {
		a, b, c, d := c[0], c[1], c[2], c[3]
		for _, ends := range [][4]api.Point{{a, b, c, d}, {b, a, c, d}, {a, b, d, c}, {b, a, d, c}, {c, d, a, b}, {d, c, a, b}, {c, d, b, a}, {d, c, b, a}} {
			if first, second, ok := intersect.Overlap(ends[0], ends[1], ends[2], ends[3]); ok || first != (api.Point{}) || second != (api.Point{}) {
				t.Errorf("Overlap(%s) = %#v, %#v, %v, want false", show(ends[:]...), first, second, ok)
			}
		}
	}
}

func TestOverlapOfAll(t *testing.T) {
	count := map[bool]int{}
	for _, line := range directions() {
		var points []api.Point
		for _, k := range []string{"-1", "0", "1/3", "1", "2"} {
			points = append(points, alongLine(line[0], line[1], number(k)))
		}
		points = append(points, inPlane(line[0], line[1], at("5", "7", "11"), number("1/3"), number("1/100")))
		for _, a := range points {
			for _, b := range points {
				for _, c := range points {
					for _, d := range points {
						count[checkOverlap(t, a, b, c, d)]++
					}
				}
			}
		}
	}
	quadruples(func(a, b, c, d api.Point) {
		count[checkOverlap(t, a, b, c, d)]++
	})
	if min(count[false], count[true]) < 1000 {
		t.Errorf("overlapping segments: %v", count)
	}
}

// P6.2

func TestCommonPointOfPlanes(t *testing.T) {
	threePlanes(func(a, b, c api.Plane) {
		x, ok := intersect.ThreePlanes(a, b, c)
		for _, others := range [][3]api.Plane{{b, c, a}, {c, b, a}, {plane.Flip(a), b, c}, {b, plane.Flip(a), plane.Flip(c)}} {
			if y, met := intersect.ThreePlanes(others[0], others[1], others[2]); y != x || met != ok {
				t.Fatalf("ThreePlanes(%s) = %s, %v, want %s, %v", showPlanes(others[:]...), show(y), met, show(x), ok)
			}
		}
		if ok && (plane.Side(a, x) != 0 || plane.Side(b, x) != 0 || plane.Side(c, x) != 0) {
			t.Fatalf("ThreePlanes(%s) = %s is not on all planes", showPlanes(a, b, c), show(x))
		}
	})
}

func TestCommonPointOfLine(t *testing.T) {
	lines(func(p api.Plane, a, b api.Point) {
		x, ok := intersect.LinePlane(p, a, b)
		if y, met := intersect.LinePlane(p, b, a); y != x || met != ok {
			t.Fatalf("LinePlane(%s, %s) = %s, %v, want %s, %v", showPlanes(p), show(b, a), show(y), met, show(x), ok)
		}
		if y, met := intersect.LinePlane(plane.Flip(p), a, b); y != x || met != ok {
			t.Fatalf("LinePlane(%s, %s) = %s, %v, want %s, %v", showPlanes(plane.Flip(p)), show(a, b), show(y), met, show(x), ok)
		}
		if ok && (plane.Side(p, x) != 0 || !intersect.Collinear(a, b, x)) {
			t.Fatalf("LinePlane(%s, %s) = %s is not on the plane and the line", showPlanes(p), show(a, b), show(x))
		}
		// The plane separates the points if and only if it meets their segment between them.
		if opposite := plane.Side(p, a)*plane.Side(p, b) < 0; opposite != (ok && intersect.Between(a, b, x)) {
			t.Fatalf("LinePlane(%s, %s) = %s, %v", showPlanes(p), show(a, b), show(x), ok)
		}
	})
}

func TestPointsOfSegments(t *testing.T) {
	parameters := []struct {
		text   string
		within bool
	}{{"-1", false}, {"-1/1000000", false}, {"0", false}, {"1/1000000", true}, {"1/3", true}, {"1/2", true}, {"999999/1000000", true}, {"1", false}, {"1000001/1000000", false}, {"5", false}}
	segments(func(a, b api.Point) {
		for _, p := range parameters {
			x := alongLine(a, b, number(p.text))
			if intersect.Between(a, b, x) != p.within || intersect.Between(b, a, x) != p.within || !intersect.Collinear(a, b, x) {
				t.Fatalf("%s at %s of the segment of %s", show(x), p.text, show(a, b))
			}
		}
	})
}

func TestOverlapContainsItsPoints(t *testing.T) {
	quadruples(func(a, b, c, d api.Point) {
		low, high, ok := intersect.Overlap(a, b, c, d)
		if !ok {
			return
		}
		middle := alongLine(low, high, big.NewRat(1, 2))
		if point.Cmp(low, high) >= 0 || !intersect.Between(a, b, middle) || !intersect.Between(c, d, middle) {
			t.Fatalf("Overlap(%s) = %s", show(a, b, c, d), show(low, high))
		}
		for _, end := range []api.Point{low, high} {
			outside := alongLine(middle, end, number("1000001/1000000"))
			if !slices.Contains([]api.Point{a, b, c, d}, end) || intersect.Between(a, b, outside) && intersect.Between(c, d, outside) {
				t.Fatalf("Overlap(%s) = %s", show(a, b, c, d), show(low, high))
			}
		}
	})
}

// P6.3

func TestExchangedPoints(t *testing.T) {
	quadruples(func(a, b, c, d api.Point) {
		sign := intersect.Orient(a, b, c, d)
		given := [4]api.Point{a, b, c, d}
		for i := range given {
			for j := range i {
				x := given
				x[i], x[j] = x[j], x[i]
				if got := intersect.Orient(x[0], x[1], x[2], x[3]); got != -sign {
					t.Fatalf("Orient(%s) = %d, want %d", show(x[:]...), got, -sign)
				}
			}
		}
	})
}

func TestCollinearInOtherOrders(t *testing.T) {
	triples(func(a, b, c api.Point) {
		collinear := intersect.Collinear(a, b, c)
		for _, x := range [][3]api.Point{{a, c, b}, {b, a, c}, {b, c, a}, {c, a, b}, {c, b, a}} {
			if intersect.Collinear(x[0], x[1], x[2]) != collinear {
				t.Fatalf("Collinear(%s) = %v", show(x[:]...), !collinear)
			}
		}
	})
}

// TestOtherArguments checks that planes and points that are invalid or not in canonical form cause no panic.
func TestOtherArguments(t *testing.T) {
	numbers := []api.Int{{}, {Neg: true}, {Neg: true, Mag: "\x00\x00"}, {Mag: "\x01"}, {Neg: true, Mag: "\x06\x00"}, {Mag: strings.Repeat("\xff", 40)}}
	var flats []api.Plane
	var spots []api.Point
	for _, a := range numbers {
		for _, b := range numbers {
			for _, c := range numbers {
				flats = append(flats, api.Plane{A: a, B: b, C: c, D: a}, api.Plane{A: c, C: b, D: c})
				spots = append(spots, api.Point{X: a, Y: b, Z: c, W: b}, api.Point{X: b, Y: c, Z: a})
			}
		}
	}
	for i := range flats {
		for j := range 40 {
			p, q, r := flats[(i+j)%len(flats)], flats[(3*i+j)%len(flats)], flats[(7*i+5*j)%len(flats)]
			a, b, c, d := spots[(i+j)%len(spots)], spots[(3*i+j)%len(spots)], spots[(7*i+5*j)%len(spots)], spots[(i+11*j)%len(spots)]
			intersect.ThreePlanes(p, q, r)
			intersect.LinePlane(p, a, b)
			intersect.Orient(a, b, c, d)
			intersect.Collinear(a, b, c)
			intersect.Between(a, b, c)
			intersect.Overlap(a, b, c, d)
		}
	}
}

func FuzzIntersect(f *testing.F) {
	f.Add("\x01\x02\x03\x04\x05", "\x07\x00\x01\xff\x02", "\x03\x02\x01\x00\x09", int64(1), int64(2), int64(3))
	f.Add("\x00\x00\x01\x00\x00", "\x00\x01\x00\x00\x00", "\x01\x00\x00\x00\x00", int64(0), int64(7), int64(-1))
	f.Fuzz(func(t *testing.T, first, second, third string, j, k, m int64) {
		if len(first)+len(second)+len(third) > 600 {
			t.Skip("too slow")
		}
		part := func(text string, i int) api.Int {
			if len(text) == 0 {
				return api.Int{}
			}
			return api.Int{Neg: (i+len(text))%2 == 0, Mag: text[i*len(text)/5 : (i+1)*len(text)/5]}
		}
		var spots []api.Point
		var flats []api.Plane
		for i, text := range []string{first, second, third} {
			spots = append(spots, fromVector(toVector(api.Point{X: part(text, 0), Y: part(text, 1), Z: part(text, 2), W: part(text, 3)})))
			p, ok := canonical(toEquation(api.Plane{A: part(text, 1), B: part(text, 2), C: part(text, 3), D: part(text, 4)}))
			if !ok {
				p = of(int64(i), 1, 0, k)
			}
			flats = append(flats, p)
		}
		a, b, c, p, q, r := spots[0], spots[1], spots[2], flats[0], flats[1], flats[2]
		x, y := alongLine(a, b, big.NewRat(j, 7)), alongLine(a, b, big.NewRat(k, 5))
		z := inPlane(a, b, c, big.NewRat(k, 3), big.NewRat(m, 2))
		checkPlanes(t, p, q, r)
		checkPlanes(t, p, q, pencil(p, q, j, k, m))
		checkLine(t, p, a, b)
		checkLine(t, p, a, z)
		for _, d := range []api.Point{c, x, y, z} {
			checkOrient(t, a, b, c, d)
			checkOrient(t, x, y, d, a)
			checkCollinear(t, a, b, d)
			checkBetween(t, a, b, d)
			checkBetween(t, x, d, b)
			checkOverlap(t, a, b, x, d)
			checkOverlap(t, x, d, y, b)
		}
	})
}
