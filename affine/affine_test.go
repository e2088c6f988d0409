package affine_test

import (
	"math"
	"math/big"
	"math/rand"
	"slices"
	"strings"
	"testing"

	"voussoir/affine"
	"voussoir/api"
	"voussoir/plane"
	"voussoir/point"
	"voussoir/rational"
)

// vector is a vector or a point with Cartesian coordinates, computed without the layers under test.
type vector [3]*big.Rat

// equation holds A, B, C and D of A*x + B*y + C*z = D, also computed without the layers under test.
type equation [4]*big.Rat

// mapping is an affine map, given by the images of the origin and of the points at distance 1 on the axes, also computed
// without the layers under test.
type mapping struct {
	origin vector
	units  [3]vector
}

// natural returns the number that a magnitude represents.
func natural(magnitude string) *big.Int {
	bytes := []byte(magnitude)
	slices.Reverse(bytes)
	return new(big.Int).SetBytes(bytes)
}

// magnitude returns the magnitude of n without trailing zero bytes.
func magnitude(n *big.Int) string {
	bytes := n.Bytes()
	slices.Reverse(bytes)
	return string(bytes)
}

// bigInt returns the number that x represents, in whatever form x is.
func bigInt(x api.Int) *big.Int {
	n := natural(x.Mag)
	if x.Neg {
		n.Neg(n)
	}
	return n
}

// fromBigInt returns n in canonical form.
func fromBigInt(n *big.Int) api.Int {
	return api.Int{Neg: n.Sign() < 0, Mag: magnitude(n)}
}

// orOne returns n, or 1 if n is zero.
func orOne(n *big.Int) *big.Int {
	if n.Sign() == 0 {
		return big.NewInt(1)
	}
	return n
}

// bigRat returns the number that x represents, in whatever representation x is.
func bigRat(x api.Rational) *big.Rat {
	return new(big.Rat).SetFrac(bigInt(api.Int{Neg: x.Neg, Mag: x.Num}), orOne(natural(x.Den)))
}

// fromBigRat returns n in canonical form.
func fromBigRat(n *big.Rat) api.Rational {
	x := api.Rational{Neg: n.Sign() < 0, Num: magnitude(n.Num())}
	if !n.IsInt() {
		x.Den = magnitude(n.Denom())
	}
	return x
}

// number returns the rational number with the text s.
func number(s string) *big.Rat {
	n, ok := new(big.Rat).SetString(s)
	if !ok {
		panic(s)
	}
	return n
}

// coprime returns the numbers divided by a positive number, such that they are integers without a common divisor.
func coprime(numbers []*big.Rat) []api.Int {
	common, divisor := big.NewInt(1), new(big.Int)
	for _, x := range numbers {
		common.Mul(common, x.Denom())
	}
	var integers []*big.Int
	for _, x := range numbers {
		n := new(big.Rat).Mul(x, new(big.Rat).SetInt(common)).Num()
		divisor.GCD(nil, nil, divisor, new(big.Int).Abs(n))
		integers = append(integers, n)
	}
	var result []api.Int
	for _, n := range integers {
		result = append(result, fromBigInt(new(big.Int).Quo(n, orOne(divisor))))
	}
	return result
}

// canonical returns the plane with the equation e in canonical form, or false if A, B and C are 0.
func canonical(e equation) (api.Plane, bool) {
	if e[0].Sign() == 0 && e[1].Sign() == 0 && e[2].Sign() == 0 {
		return api.Plane{}, false
	}
	c := coprime(e[:])
	return api.Plane{A: c[0], B: c[1], C: c[2], D: c[3]}, true
}

// toEquation returns the equation of p, in whatever form p is.
func toEquation(p api.Plane) equation {
	var e equation
	for i, x := range []api.Int{p.A, p.B, p.C, p.D} {
		e[i] = new(big.Rat).SetInt(bigInt(x))
	}
	return e
}

// toVector returns the Cartesian coordinates of p.
func toVector(p api.Point) vector {
	w := orOne(bigInt(p.W))
	return vector{new(big.Rat).SetFrac(bigInt(p.X), w), new(big.Rat).SetFrac(bigInt(p.Y), w), new(big.Rat).SetFrac(bigInt(p.Z), w)}
}

// fromVector returns the point with the coordinates v in canonical form.
func fromVector(v vector) api.Point {
	c := coprime(append(v[:], big.NewRat(1, 1)))
	return api.Point{X: c[0], Y: c[1], Z: c[2], W: c[3]}
}

// combine returns x + k * y.
func combine(x, y vector, k *big.Rat) vector {
	var sum vector
	for i := range sum {
		sum[i] = new(big.Rat).Mul(k, y[i])
		sum[i].Add(sum[i], x[i])
	}
	return sum
}

// product returns the scalar product of x and y.
func product(x, y vector) *big.Rat {
	sum := new(big.Rat)
	for i := range x {
		sum.Add(sum, new(big.Rat).Mul(x[i], y[i]))
	}
	return sum
}

// normal returns A, B and C.
func normal(e equation) vector {
	return vector{e[0], e[1], e[2]}
}

// excess returns A*x + B*y + C*z - D.
func excess(e equation, x vector) *big.Rat {
	return new(big.Rat).Sub(product(normal(e), x), e[3])
}

// through returns the equation of the plane through three points: its normal vector is (b - a) × (c - a).
func through(a, b, c vector) equation {
	minus := big.NewRat(-1, 1)
	u, v := combine(b, a, minus), combine(c, a, minus)
	minor := func(i, j int) *big.Rat {
		return new(big.Rat).Sub(new(big.Rat).Mul(u[i], v[j]), new(big.Rat).Mul(u[j], v[i]))
	}
	n := vector{minor(1, 2), minor(2, 0), minor(0, 1)}
	return equation{n[0], n[1], n[2], product(n, a)}
}

// of returns the plane with the given coefficients, as they are.
func of(a, b, c, d int64) api.Plane {
	return api.Plane{A: fromBigInt(big.NewInt(a)), B: fromBigInt(big.NewInt(b)), C: fromBigInt(big.NewInt(c)), D: fromBigInt(big.NewInt(d))}
}

// at returns the point with the coordinates with the texts x, y and z in canonical form.
func at(x, y, z string) api.Point {
	return fromVector(vector{number(x), number(y), number(z)})
}

// vec returns the vector with the components with the texts x, y and z in canonical form.
func vec(x, y, z string) api.Vec3 {
	return api.Vec3{fromBigRat(number(x)), fromBigRat(number(y)), fromBigRat(number(z))}
}

// rationalForms returns representations of x, which is in canonical form.
func rationalForms(x api.Rational) []api.Rational {
	list := []api.Rational{x, {Neg: x.Neg, Num: x.Num + "\x00", Den: x.Den + "\x00\x00"}}
	for _, factor := range []int64{1, 6, 256} {
		f := big.NewInt(factor)
		list = append(list, api.Rational{Neg: x.Neg || x.Num == "", Num: magnitude(new(big.Int).Mul(f, natural(x.Num))), Den: magnitude(new(big.Int).Mul(f, orOne(natural(x.Den))))})
	}
	return list
}

// vecForms returns representations of v, which has components in canonical form.
func vecForms(v api.Vec3) []api.Vec3 {
	x, y, z := rationalForms(v[0]), rationalForms(v[1]), rationalForms(v[2])
	var list []api.Vec3
	for i := range x {
		list = append(list, api.Vec3{x[i], y[i], z[i]}, api.Vec3{x[i], y[(i+1)%len(y)], z[(i+3)%len(z)]})
	}
	return list
}

// randomInt returns an integer of up to size bytes, in any form. Zeros and small bytes are frequent.
func randomInt(r *rand.Rand, size int) api.Int {
	bytes := make([]byte, r.Intn(size+1))
	for i := range bytes {
		bytes[i] = []byte{0, 1, 2, 6, 0xff, byte(r.Intn(256)), byte(r.Intn(256))}[r.Intn(7)]
	}
	return api.Int{Neg: r.Intn(2) == 0, Mag: string(bytes)}
}

// randomRational returns a number with magnitudes of up to size bytes, in any representation.
func randomRational(r *rand.Rand, size int) api.Rational {
	n := randomInt(r, size)
	return api.Rational{Neg: n.Neg, Num: n.Mag, Den: randomInt(r, size).Mag}
}

// randomVec returns a vector with magnitudes of up to size bytes, in any representation.
func randomVec(r *rand.Rand, size int) api.Vec3 {
	return api.Vec3{randomRational(r, size), randomRational(r, size), randomRational(r, size)}
}

// randomCoefficients returns a plane with magnitudes of up to size bytes, in any form and perhaps invalid.
func randomCoefficients(r *rand.Rand, size int) api.Plane {
	return api.Plane{A: randomInt(r, size), B: randomInt(r, size), C: randomInt(r, size), D: randomInt(r, size)}
}

// randomPlane returns a plane in canonical form whose coefficients had up to size bytes.
func randomPlane(r *rand.Rand, size int) api.Plane {
	for {
		if p, ok := canonical(toEquation(randomCoefficients(r, size))); ok {
			return p
		}
	}
}

// randomPoint returns a point in canonical form whose integers had up to size bytes.
func randomPoint(r *rand.Rand, size int) api.Point {
	return fromVector(toVector(api.Point{X: randomInt(r, size), Y: randomInt(r, size), Z: randomInt(r, size), W: randomInt(r, size)}))
}

// minus returns x - y.
func minus(x, y vector) vector {
	return combine(x, y, big.NewRat(-1, 1))
}

// zero returns the origin.
func zero() vector {
	return vector{new(big.Rat), new(big.Rat), new(big.Rat)}
}

// unit returns the point at distance 1 on an axis.
func unit(axis int) vector {
	x := zero()
	x[axis] = big.NewRat(1, 1)
	return x
}

// mapped returns the map that does what image does.
func mapped(image func(x vector) vector) mapping {
	m := mapping{origin: image(zero())}
	for axis := range m.units {
		m.units[axis] = image(unit(axis))
	}
	return m
}

// apply returns the image of x: the image of the origin moved along the images of the unit vectors.
func (m mapping) apply(x vector) vector {
	image := m.origin
	for axis := range x {
		image = combine(image, minus(m.units[axis], m.origin), x[axis])
	}
	return image
}

// toMapping returns the map that m represents, in whatever representations its coefficients are.
func toMapping(m api.Map) mapping {
	return mapped(func(x vector) vector {
		var image vector
		for row := range image {
			coefficients := vector{bigRat(m[4*row]), bigRat(m[4*row+1]), bigRat(m[4*row+2])}
			image[row] = new(big.Rat).Add(product(coefficients, x), bigRat(m[4*row+3]))
		}
		return image
	})
}

// fromMapping returns m with coefficients in canonical form.
func fromMapping(m mapping) api.Map {
	var result api.Map
	for row := range 3 {
		for axis := range 3 {
			result[4*row+axis] = fromBigRat(new(big.Rat).Sub(m.units[axis][row], m.origin[row]))
		}
		result[4*row+3] = fromBigRat(m.origin[row])
	}
	return result
}

// determinant returns the determinant of m: the oriented volume that the images of the unit vectors span.
func determinant(m mapping) *big.Rat {
	return excess(through(m.origin, m.units[0], m.units[1]), m.units[2])
}

// solve returns the x whose image under m is y, found by elimination, or false if there is not exactly one.
func solve(m mapping, y vector) (vector, bool) {
	right := minus(y, m.origin)
	var system [3]equation
	for row := range system {
		for axis := range 3 {
			system[row][axis] = new(big.Rat).Sub(m.units[axis][row], m.origin[row])
		}
		system[row][3] = right[row]
	}
	for column := range 3 {
		pivot := column
		for system[pivot][column].Sign() == 0 {
			if pivot++; pivot == 3 {
				return vector{}, false
			}
		}
		system[column], system[pivot] = system[pivot], system[column]
		for row := range 3 {
			if row != column {
				factor := new(big.Rat).Quo(system[row][column], system[column][column])
				for i := range 4 {
					system[row][i] = new(big.Rat).Sub(system[row][i], new(big.Rat).Mul(factor, system[column][i]))
				}
			}
		}
	}
	var x vector
	for i := range x {
		x[i] = new(big.Rat).Quo(system[i][3], system[i][i])
	}
	return x, true
}

// inverted returns the inverse of m, or false if it has none.
func inverted(m mapping) (mapping, bool) {
	if _, ok := solve(m, zero()); !ok {
		return mapping{}, false
	}
	return mapped(func(y vector) vector {
		x, _ := solve(m, y)
		return x
	}), true
}

// reflected returns the reflection of x in e: its projection is halfway.
func reflected(e equation, x vector) vector {
	factor := new(big.Rat).Quo(excess(e, x), product(normal(e), normal(e)))
	return combine(x, normal(e), factor.Mul(factor, big.NewRat(-2, 1)))
}

// turned returns x after a quarter turn about an axis.
func turned(axis int, x vector) vector {
	next, last := (axis+1)%3, (axis+2)%3
	image := x
	image[last], image[next] = x[next], new(big.Rat).Neg(x[last])
	return image
}

// corners returns three points of e that are not collinear. The first is the foot of the perpendicular from the origin.
func corners(e equation) [3]vector {
	n := normal(e)
	foot := combine(zero(), n, new(big.Rat).Quo(e[3], product(n, n)))
	for axis := range 3 {
		across := cross(n, unit(axis))
		if product(across, across).Sign() != 0 {
			one := big.NewRat(1, 1)
			return [3]vector{foot, combine(foot, across, one), combine(foot, cross(n, across), one)}
		}
	}
	panic("an invalid plane")
}

// cross returns the cross product of x and y.
func cross(x, y vector) vector {
	e := through(zero(), x, y)
	return vector{e[0], e[1], e[2]}
}

// image returns the plane that contains the images of three points of e and has the image of a point behind e behind it,
// or false if there is none.
func image(m mapping, e equation) (api.Plane, bool) {
	points := corners(e)
	behind := m.apply(minus(points[0], normal(e)))
	moved := through(m.apply(points[0]), m.apply(points[1]), m.apply(points[2]))
	if determinant(m).Sign() == 0 {
		return api.Plane{}, false
	}
	if excess(moved, behind).Sign() > 0 {
		for i := range moved {
			moved[i] = new(big.Rat).Neg(moved[i])
		}
	}
	return canonical(moved)
}

// rows returns the map with the coefficients with the texts in three rows, in canonical form.
func rows(texts ...string) api.Map {
	var m api.Map
	for i, text := range strings.Fields(strings.Join(texts, " ")) {
		m[i] = fromBigRat(number(text))
	}
	return m
}

// show returns the texts of the coefficients of m.
func show(m api.Map) string {
	var texts []string
	for i, x := range m {
		if i > 0 && i%4 == 0 {
			texts = append(texts, "|")
		}
		texts = append(texts, bigRat(x).RatString())
	}
	return strings.Join(texts, " ")
}

// inForms calls check with m, which has coefficients in canonical form, in several representations of its coefficients.
func inForms(m api.Map, check func(m api.Map)) {
	check(m)
	for i := range 5 {
		uniform, mixed := m, m
		for j, x := range m {
			forms := rationalForms(x)
			uniform[j], mixed[j] = forms[i], forms[(i+j)%len(forms)]
		}
		check(uniform)
		check(mixed)
	}
}

// maps returns maps with coefficients in canonical form, whose determinants are negative, zero and positive.
func maps() []api.Map {
	return []api.Map{
		rows("1 0 0 0", "0 1 0 0", "0 0 1 0"), rows("1 0 0 5", "0 1 0 -6", "0 0 1 7/2"), rows("2 0 0 0", "0 2 0 0", "0 0 2 0"), rows("-1/3 0 0 1", "0 -1/3 0 1", "0 0 -1/3 1"),
		rows("1 0 0 0", "0 1 0 0", "0 0 -1 2"), rows("-1 0 0 4", "0 1 0 0", "0 0 1 0"), rows("0 1 0 0", "1 0 0 0", "0 0 1 3"), rows("0 0 1 1/2", "1 0 0 0", "0 1 0 1/3"),
		rows("1 1/2 0 0", "0 1 0 0", "0 0 1 0"), rows("1 0 0 0", "3 1 0 2", "0 -5 1 0"), rows("1 2 3 4", "5 6 7 8", "9 10 12 11"), rows("1 2 3 4", "9 10 12 11", "5 6 7 8"),
		rows("1/2 1/3 1/5 1/7", "-1/11 1/13 1/17 0", "1/19 -1/23 1/29 -1/31"), rows("1/6 1/10 1/15 1/4", "0 1/14 1/21 -1/9", "0 0 1/35 1/25"), rows("1000 0 0 1/1000", "0 1/1000 0 1000", "0 0 -1 0"),
		rows("0 0 0 0", "0 0 0 0", "0 0 0 0"), rows("0 0 0 1", "0 0 0 2/3", "0 0 0 -3"), rows("0 0 0 0", "0 1 0 0", "0 0 1 0"), rows("1 0 0 0", "0 0 0 5", "0 0 1 0"), rows("1 0 0 0", "0 1 0 0", "0 0 0 -1"),
		rows("1 2 3 4", "5 6 7 8", "9 10 11 13"), rows("1 2 3 4", "2 4 6 7", "-1/2 -1 -3/2 9"), rows("1 2 3 4", "1 2 3 5", "0 1 0 0"), rows("1/2 1/2 1/3 0", "1/5 1/5 -2 0", "7 7 1/7 0"),
		rows("18446744073709551616 1 0 -1/18446744073709551616", "18446744073709551615 1 0 0", "0 -1/3 255/256 18446744073709551615"),
		rows("9223372036854775808 -9223372036854775808 0 0", "0 -1/9223372036854775808 0 1", "65536 0 65535 1/65537"),
	}
}

// randomMap returns a map with magnitudes of up to size bytes, in any representation.
func randomMap(r *rand.Rand, size int) api.Map {
	var m api.Map
	for i := range m {
		m[i] = randomRational(r, size)
	}
	return m
}

// flattened returns m with a row of the left matrix that is the sum of multiples of the two others, so that the
// determinant is zero.
func flattened(r *rand.Rand, m api.Map) api.Map {
	row, j, k := r.Intn(3), big.NewRat(r.Int63n(7)-3, 2), big.NewRat(r.Int63n(7)-3, 3)
	for column := range 3 {
		x := new(big.Rat).Mul(j, bigRat(m[(4*row+4)%12+column]))
		m[4*row+column] = fromBigRat(x.Add(x, new(big.Rat).Mul(k, bigRat(m[(4*row+8)%12+column]))))
	}
	return m
}

// eachMap calls check with maps in any representation, up to many bytes, with determinants of all signs.
func eachMap(check func(m api.Map)) {
	for _, m := range maps() {
		inForms(m, check)
	}
	r := rand.New(rand.NewSource(1))
	for i := range 300 {
		m := randomMap(r, 1+i%15)
		check(m)
		check(flattened(r, m))
	}
	check(randomMap(r, 60))
	check(flattened(r, randomMap(r, 60)))
}

// planes returns planes in canonical form: combinations of small coefficients, and some with large ones.
func planes() []api.Plane {
	var list []api.Plane
	for a := range int64(3) {
		for b := range int64(3) {
			for _, rest := range [][2]int64{{0, 0}, {0, 2}, {1, 0}, {-2, 3}} {
				if p, ok := canonical(toEquation(of(a-1, b-1, rest[0], rest[1]))); ok {
					list = append(list, p)
				}
			}
		}
	}
	for _, texts := range [][4]string{
		{"255", "-256", "257", "1000"}, {"1/3", "2/5", "-3/7", "100"}, {"1", "0", "-1/1000", "1/1000000"}, {"18446744073709551616", "18446744073709551615", "-1", "1/18446744073709551616"},
	} {
		p, _ := canonical(equation{number(texts[0]), number(texts[1]), number(texts[2]), number(texts[3])})
		list = append(list, p)
	}
	return list
}

// points returns points in canonical form: combinations of small coordinates, and some with large ones.
func points() []api.Point {
	list := []api.Point{at("1000", "-1000", "999999/1000"), at("1/2", "1/3", "-1/7"), at("18446744073709551616", "1/18446744073709551615", "-1/3")}
	for _, x := range []string{"0", "1", "-1/2"} {
		for _, y := range []string{"0", "1"} {
			for _, z := range []string{"0", "1", "3"} {
				list = append(list, at(x, y, z))
			}
		}
	}
	return list
}

// withPoints calls check with maps in any representation and points in canonical form, up to many bytes.
func withPoints(check func(m api.Map, x api.Point)) {
	r, list := rand.New(rand.NewSource(2)), points()
	eachMap(func(m api.Map) {
		check(m, list[r.Intn(len(list))])
		check(m, randomPoint(r, 12))
	})
	for _, m := range maps() {
		for _, x := range list {
			check(m, x)
		}
	}
	check(randomMap(r, 60), randomPoint(r, 60))
}

// withPlanes calls check with maps in any representation and planes in canonical form, up to many bytes.
func withPlanes(check func(m api.Map, p api.Plane)) {
	r, list := rand.New(rand.NewSource(3)), planes()
	eachMap(func(m api.Map) {
		check(m, list[r.Intn(len(list))])
		check(m, randomPlane(r, 12))
	})
	for _, m := range maps() {
		for _, p := range list {
			check(m, p)
		}
	}
	check(randomMap(r, 60), randomPlane(r, 60))
}

// pairs calls check with two maps in any representation, up to many bytes, with determinants of all signs.
func pairs(check func(a, b api.Map)) {
	for _, a := range maps() {
		for _, b := range maps() {
			check(a, b)
		}
	}
	r := rand.New(rand.NewSource(4))
	for i := range 300 {
		a, b := randomMap(r, 1+i%12), randomMap(r, 1+i%12)
		check(a, b)
		check(a, flattened(r, b))
		check(flattened(r, a), b)
	}
	check(randomMap(r, 40), randomMap(r, 40))
}

// eachVec calls check with vectors in any representation, up to many bytes.
func eachVec(check func(v api.Vec3)) {
	for _, v := range []api.Vec3{{}, vec("1", "2", "3"), vec("0", "0", "-1"), vec("1/2", "-1/3", "5/6"), vec("1000", "-999999/1000", "0"), vec("18446744073709551616", "1/18446744073709551615", "-1/3")} {
		for _, form := range vecForms(v) {
			check(form)
		}
	}
	r := rand.New(rand.NewSource(5))
	for i := range 500 {
		check(randomVec(r, 1+i%20))
	}
}

// eachPlane calls check with planes in canonical form, up to many bytes.
func eachPlane(check func(p api.Plane)) {
	for _, p := range planes() {
		check(p)
	}
	r := rand.New(rand.NewSource(6))
	for i := range 500 {
		check(randomPlane(r, 1+i%25))
	}
	check(randomPlane(r, 200))
}

// quarterTurns returns numbers of quarter turns, of all remainders modulo 4 and up to the least and the greatest int.
func quarterTurns() []int {
	var list []int
	for k := -13; k <= 13; k++ {
		list = append(list, k)
	}
	for k := range 8 {
		list = append(list, math.MinInt+k, math.MaxInt-k, math.MinInt32+k, math.MaxInt32-k, 1000*k, -1001*k)
	}
	return list
}

// P7.1

func TestIdentity(t *testing.T) {
	if got, want := affine.Identity(), rows("1 0 0 0", "0 1 0 0", "0 0 1 0"); got != want {
		t.Errorf("Identity() = %s, want %s", show(got), show(want))
	}
}

func TestTranslation(t *testing.T) {
	for _, c := range []struct {
		v    api.Vec3
		want api.Map
	}{
		{api.Vec3{}, rows("1 0 0 0", "0 1 0 0", "0 0 1 0")}, {vec("1", "2", "3"), rows("1 0 0 1", "0 1 0 2", "0 0 1 3")}, {vec("-1", "0", "0"), rows("1 0 0 -1", "0 1 0 0", "0 0 1 0")},
		{vec("1/2", "-1/3", "5/6"), rows("1 0 0 1/2", "0 1 0 -1/3", "0 0 1 5/6")}, {vec("0", "1/7", "-7"), rows("1 0 0 0", "0 1 0 1/7", "0 0 1 -7")},
	} {
		for _, v := range vecForms(c.v) {
			if got := affine.Translation(v); got != c.want {
				t.Errorf("Translation(%#v) = %s, want %s", v, show(got), show(c.want))
			}
		}
	}
	eachVec(func(v api.Vec3) {
		by := vector{bigRat(v[0]), bigRat(v[1]), bigRat(v[2])}
		want := fromMapping(mapped(func(x vector) vector { return combine(x, by, big.NewRat(1, 1)) }))
		if got := affine.Translation(v); got != want {
			t.Fatalf("Translation(%#v) = %s, want %s", v, show(got), show(want))
		}
	})
}

func TestReflection(t *testing.T) {
	for _, c := range []struct {
		p    api.Plane
		want api.Map
	}{
		{of(0, 0, 1, 1), rows("1 0 0 0", "0 1 0 0", "0 0 -1 2")}, {of(0, 0, -1, 1), rows("1 0 0 0", "0 1 0 0", "0 0 -1 -2")}, {of(0, 0, 1, 0), rows("1 0 0 0", "0 1 0 0", "0 0 -1 0")},
		{of(1, 0, 0, -3), rows("-1 0 0 -6", "0 1 0 0", "0 0 1 0")}, {of(0, 2, 0, 1), rows("1 0 0 0", "0 -1 0 1", "0 0 1 0")}, {of(1, 1, 0, 2), rows("0 -1 0 2", "-1 0 0 2", "0 0 1 0")},
		{of(1, -1, 0, 0), rows("0 1 0 0", "1 0 0 0", "0 0 1 0")}, {of(1, 1, 1, 0), rows("1/3 -2/3 -2/3 0", "-2/3 1/3 -2/3 0", "-2/3 -2/3 1/3 0")},
		{of(1, 2, 2, 9), rows("7/9 -4/9 -4/9 2", "-4/9 1/9 -8/9 4", "-4/9 -8/9 1/9 4")}, {of(0, 3, -4, 5), rows("1 0 0 0", "0 7/25 24/25 6/5", "0 24/25 -7/25 -8/5")},
	} {
		if got := affine.Reflection(c.p); got != c.want {
			t.Errorf("Reflection(%s) = %s, want %s", plane.Format(c.p), show(got), show(c.want))
		}
		if got := affine.Reflection(plane.Flip(c.p)); got != c.want {
			t.Errorf("Reflection(%s) = %s, want %s", plane.Format(plane.Flip(c.p)), show(got), show(c.want))
		}
	}
	eachPlane(func(p api.Plane) {
		want := fromMapping(mapped(func(x vector) vector { return reflected(toEquation(p), x) }))
		if got := affine.Reflection(p); got != want {
			t.Fatalf("Reflection(%s) = %s, want %s", plane.Format(p), show(got), show(want))
		}
	})
}

func TestQuarterTurns(t *testing.T) {
	for axis, turns := range [3][4]api.Map{
		{rows("1 0 0 0", "0 1 0 0", "0 0 1 0"), rows("1 0 0 0", "0 0 -1 0", "0 1 0 0"), rows("1 0 0 0", "0 -1 0 0", "0 0 -1 0"), rows("1 0 0 0", "0 0 1 0", "0 -1 0 0")},
		{rows("1 0 0 0", "0 1 0 0", "0 0 1 0"), rows("0 0 1 0", "0 1 0 0", "-1 0 0 0"), rows("-1 0 0 0", "0 1 0 0", "0 0 -1 0"), rows("0 0 -1 0", "0 1 0 0", "1 0 0 0")},
		{rows("1 0 0 0", "0 1 0 0", "0 0 1 0"), rows("0 -1 0 0", "1 0 0 0", "0 0 1 0"), rows("-1 0 0 0", "0 -1 0 0", "0 0 1 0"), rows("0 1 0 0", "-1 0 0 0", "0 0 1 0")},
	} {
		for _, quarters := range quarterTurns() {
			// Go's remainder of a negative number is not positive.
			want := turns[(quarters%4+4)%4]
			if got, ok := affine.Rotation(axis, quarters); !ok || got != want {
				t.Errorf("Rotation(%d, %d) = %s, %v, want %s", axis, quarters, show(got), ok, show(want))
			}
		}
	}
}

func TestRotationStepByStep(t *testing.T) {
	for axis := range 3 {
		forward, backward := mapped(func(x vector) vector { return x }), mapped(func(x vector) vector { return x })
		for k := range 10 {
			for quarters, m := range map[int]mapping{k: forward, -k: backward} {
				if got, ok := affine.Rotation(axis, quarters); !ok || got != fromMapping(m) {
					t.Errorf("Rotation(%d, %d) = %s, %v, want %s", axis, quarters, show(got), ok, show(fromMapping(m)))
				}
			}
			for i := range 3 {
				forward.units[i] = turned(axis, forward.units[i])
				backward.units[i] = turned(axis, turned(axis, turned(axis, backward.units[i])))
			}
		}
	}
}

func TestRotationAboutNoAxis(t *testing.T) {
	for _, axis := range []int{-1, 3, 4, -2, -3, -4, 5, 6, 255, 256, 257, -256, math.MinInt32, math.MaxInt32, math.MinInt, math.MinInt + 1, math.MaxInt, math.MaxInt - 1} {
		for _, quarters := range []int{0, 1, 2, 3, 4, -1, math.MinInt, math.MaxInt} {
			if got, ok := affine.Rotation(axis, quarters); ok || got != (api.Map{}) {
				t.Errorf("Rotation(%d, %d) = %s, %v, want false", axis, quarters, show(got), ok)
			}
		}
	}
}

// checkCompose compares Compose with one map after the other.
func checkCompose(t *testing.T, a, b api.Map) {
	t.Helper()
	first, second := toMapping(b), toMapping(a)
	want := fromMapping(mapped(func(x vector) vector { return second.apply(first.apply(x)) }))
	if got := affine.Compose(a, b); got != want {
		t.Fatalf("Compose(%s, %s) = %s, want %s", show(a), show(b), show(got), show(want))
	}
}

func TestCompose(t *testing.T) {
	for _, c := range []struct{ a, b, want api.Map }{
		{rows("1 0 0 1", "0 1 0 2", "0 0 1 3"), rows("0 -1 0 0", "1 0 0 0", "0 0 1 0"), rows("0 -1 0 1", "1 0 0 2", "0 0 1 3")},
		{rows("0 -1 0 0", "1 0 0 0", "0 0 1 0"), rows("1 0 0 1", "0 1 0 2", "0 0 1 3"), rows("0 -1 0 -2", "1 0 0 1", "0 0 1 3")},
		{rows("1/2 0 0 1/3", "0 1/2 0 0", "0 0 1/2 -1/3"), rows("4 0 0 4", "0 2/3 0 1/5", "0 0 6 0"), rows("2 0 0 7/3", "0 1/3 0 1/10", "0 0 3 -1/3")},
		{rows("1 2 3 4", "5 6 7 8", "9 10 11 12"), rows("1 0 2 0", "0 -1 0 1", "3 0 0 1/3"), rows("10 -2 2 7", "26 -6 10 49/3", "42 -10 18 77/3")},
		{rows("0 0 0 5", "0 0 0 6", "0 0 0 7"), rows("1 2 3 4", "5 6 7 8", "9 10 11 12"), rows("0 0 0 5", "0 0 0 6", "0 0 0 7")},
	} {
		inForms(c.a, func(a api.Map) {
			inForms(c.b, func(b api.Map) {
				if got := affine.Compose(a, b); got != c.want {
					t.Fatalf("Compose(%#v, %#v) = %s, want %s", a, b, show(got), show(c.want))
				}
			})
		})
	}
	pairs(func(a, b api.Map) { checkCompose(t, a, b) })
}

// checkDeterminant compares Determinant with a volume, and returns its sign.
func checkDeterminant(t *testing.T, m api.Map) int {
	t.Helper()
	want := determinant(toMapping(m))
	if got := affine.Determinant(m); got != fromBigRat(want) {
		t.Fatalf("Determinant(%#v) = %s, want %s", m, rational.Format(got), want.RatString())
	}
	return want.Sign()
}

func TestDeterminant(t *testing.T) {
	for _, c := range []struct {
		m    api.Map
		want string
	}{
		{rows("1 0 0 0", "0 1 0 0", "0 0 1 0"), "1"}, {rows("1 0 0 5", "0 1 0 -6", "0 0 1 7/2"), "1"}, {rows("2 0 0 0", "0 2 0 0", "0 0 2 0"), "8"}, {rows("-1/3 0 0 1", "0 -1/3 0 1", "0 0 -1/3 1"), "-1/27"},
		{rows("1 0 0 0", "0 1 0 0", "0 0 -1 2"), "-1"}, {rows("0 1 0 0", "1 0 0 0", "0 0 1 3"), "-1"}, {rows("0 0 1 0", "1 0 0 0", "0 1 0 0"), "1"}, {rows("0 1 0 0", "0 0 1 0", "1 0 0 0"), "1"}, {rows("0 0 1 0", "0 1 0 0", "1 0 0 0"), "-1"}, {rows("1 0 0 0", "0 0 1 0", "0 1 0 0"), "-1"},
		{rows("1 2 3 1/4", "5 6 7 1/8", "9 10 12 1/11"), "-4"}, {rows("1 2 3 4", "9 10 12 11", "5 6 7 8"), "4"}, {rows("2 3 5 0", "7 11 13 0", "17 19 23 0"), "-78"}, {rows("1/2 0 0 0", "1/3 1/5 0 0", "0 1/7 -1/11 0"), "-1/110"},
		{rows("0 0 0 1", "0 0 0 2", "0 0 0 3"), "0"}, {rows("1 2 3 4", "5 6 7 8", "9 10 11 13"), "0"}, {rows("1 0 0 0", "0 1 0 0", "0 0 0 -1"), "0"}, {rows("1/2 1/2 1/3 0", "1/5 1/5 -2 0", "7 7 1/7 0"), "0"}, {rows("1 1/3 0 0", "3 1 0 0", "0 0 1 0"), "0"}, {rows("1 1/3 0 0", "3 1 1/1000 0", "0 -1 1 0"), "1/1000"},
	} {
		inForms(c.m, func(m api.Map) {
			if got := affine.Determinant(m); got != fromBigRat(number(c.want)) {
				t.Errorf("Determinant(%#v) = %s, want %s", m, rational.Format(got), c.want)
			}
		})
	}
	count := map[int]int{}
	eachMap(func(m api.Map) {
		count[checkDeterminant(t, m)]++
	})
	if min(count[-1], count[0], count[1]) < 50 {
		t.Errorf("negative, zero and positive determinants: %v", count)
	}
}

// checkPoint compares ApplyPoint with the sum of multiples of the images of the unit vectors.
func checkPoint(t *testing.T, m api.Map, x api.Point) {
	t.Helper()
	if got, want := affine.ApplyPoint(m, x), fromVector(toMapping(m).apply(toVector(x))); got != want {
		t.Fatalf("ApplyPoint(%s, %s) = %s, want %s", show(m), point.Format(x), point.Format(got), point.Format(want))
	}
}

func TestApplyPoint(t *testing.T) {
	for _, c := range []struct {
		m       api.Map
		x, want api.Point
	}{
		{rows("1 0 0 0", "0 1 0 0", "0 0 1 0"), at("1", "2", "3"), at("1", "2", "3")}, {rows("0 -1 0 0", "1 0 0 0", "0 0 1 0"), at("1", "0", "0"), at("0", "1", "0")}, {rows("1 0 0 0", "0 1 0 0", "0 0 -1 2"), at("0", "0", "3"), at("0", "0", "-1")},
		{rows("1 2 3 4", "5 6 7 8", "9 10 12 11"), at("0", "0", "0"), at("4", "8", "11")}, {rows("1 2 3 4", "5 6 7 8", "9 10 12 11"), at("1", "-1", "1/2"), at("9/2", "21/2", "16")}, {rows("1 2 3 4", "5 6 7 8", "9 10 12 11"), at("1/3", "0", "0"), at("13/3", "29/3", "14")},
		{rows("1/2 1/3 0 0", "0 1/5 0 1/7", "0 0 -1 1/6"), at("6", "15", "1/6"), at("8", "22/7", "0")}, {rows("1/2 0 0 1/2", "0 1/2 0 1/2", "0 0 1/2 1/2"), at("1/2", "1/3", "-1"), at("3/4", "2/3", "0")}, {rows("0 0 0 1/3", "0 0 0 -2", "0 0 0 1/2"), at("7", "8", "9"), at("1/3", "-2", "1/2")},
	} {
		inForms(c.m, func(m api.Map) {
			if got := affine.ApplyPoint(m, c.x); got != c.want {
				t.Errorf("ApplyPoint(%#v, %s) = %s, want %s", m, point.Format(c.x), point.Format(got), point.Format(c.want))
			}
		})
	}
	withPoints(func(m api.Map, x api.Point) { checkPoint(t, m, x) })
}

// checkPlane compares ApplyPlane with the plane through the images of three points, and returns the sign of the
// determinant.
func checkPlane(t *testing.T, m api.Map, p api.Plane) int {
	t.Helper()
	got, ok := affine.ApplyPlane(m, p)
	if want, valid := image(toMapping(m), toEquation(p)); got != want || ok != valid {
		t.Fatalf("ApplyPlane(%s, %s) = %s, %v, want %s, %v", show(m), plane.Format(p), plane.Format(got), ok, plane.Format(want), valid)
	}
	return determinant(toMapping(m)).Sign()
}

func TestApplyPlane(t *testing.T) {
	for _, c := range []struct {
		m       api.Map
		p, want api.Plane
	}{
		{rows("1 0 0 0", "0 1 0 0", "0 0 1 0"), of(1, -2, 3, 4), of(1, -2, 3, 4)}, {rows("1 0 0 5", "0 1 0 -6", "0 0 1 7/2"), of(0, 0, 1, 0), of(0, 0, 2, 7)}, {rows("1 0 0 5", "0 1 0 -6", "0 0 1 7/2"), of(-1, 1, 0, 3), of(-1, 1, 0, -8)},
		{rows("0 -1 0 1", "1 0 0 2", "0 0 1 3"), of(1, 0, 0, 1), of(0, 1, 0, 3)}, {rows("2 0 0 0", "0 2 0 0", "0 0 2 0"), of(1, 1, 1, 1), of(1, 1, 1, 2)}, {rows("2 0 0 0", "0 1 0 0", "0 0 1 0"), of(1, 1, 1, 1), of(1, 2, 2, 2)},
		{rows("1 0 0 0", "0 1 0 0", "0 0 -1 0"), of(0, 0, 1, 4), of(0, 0, -1, 4)}, {rows("1 0 0 0", "0 1 0 0", "0 0 -1 2"), of(0, 0, 1, 4), of(0, 0, -1, 2)}, {rows("1 0 0 0", "0 1 0 0", "0 0 -1 2"), of(1, 0, 0, 5), of(1, 0, 0, 5)}, {rows("-1 0 0 0", "0 -1 0 0", "0 0 -1 0"), of(1, 2, 3, 4), of(-1, -2, -3, 4)},
		{rows("0 1 0 0", "1 0 0 0", "0 0 1 0"), of(1, 2, 3, 4), of(2, 1, 3, 4)}, {rows("1 1/2 0 0", "0 1 0 0", "0 0 1 0"), of(1, 0, 0, 0), of(2, -1, 0, 0)}, {rows("-1/3 0 0 1", "0 -1/3 0 1", "0 0 -1/3 1"), of(0, 1, 0, 2), of(0, -3, 0, -1)}, {rows("1/2 0 0 0", "0 -1/3 0 0", "0 0 1/6 1"), of(1, 1, 1, 6), of(2, -3, 6, 12)},
	} {
		inForms(c.m, func(m api.Map) {
			if got, ok := affine.ApplyPlane(m, c.p); !ok || got != c.want {
				t.Errorf("ApplyPlane(%#v, %s) = %s, %v, want %s", m, plane.Format(c.p), plane.Format(got), ok, plane.Format(c.want))
			}
		})
	}
	count := map[int]int{}
	withPlanes(func(m api.Map, p api.Plane) {
		count[checkPlane(t, m, p)]++
	})
	if min(count[-1], count[0], count[1]) < 300 {
		t.Errorf("maps with negative, zero and positive determinants: %v", count)
	}
}

// checkInverse compares Inverse with the preimages found by elimination, and returns whether there is an inverse.
func checkInverse(t *testing.T, m api.Map) bool {
	t.Helper()
	var want api.Map
	inverse, invertible := inverted(toMapping(m))
	if invertible {
		want = fromMapping(inverse)
	}
	if got, ok := affine.Inverse(m); got != want || ok != invertible {
		t.Fatalf("Inverse(%#v) = %s, %v, want %s, %v", m, show(got), ok, show(want), invertible)
	}
	return invertible
}

func TestInverse(t *testing.T) {
	for _, c := range [][2]api.Map{
		{rows("1 0 0 0", "0 1 0 0", "0 0 1 0"), rows("1 0 0 0", "0 1 0 0", "0 0 1 0")}, {rows("1 0 0 5", "0 1 0 -6", "0 0 1 7/2"), rows("1 0 0 -5", "0 1 0 6", "0 0 1 -7/2")}, {rows("2 0 0 3", "0 -3 0 1/2", "0 0 1/5 -1"), rows("1/2 0 0 -3/2", "0 -1/3 0 1/6", "0 0 5 5")},
		{rows("0 -1 0 1", "1 0 0 2", "0 0 1 3"), rows("0 1 0 -2", "-1 0 0 1", "0 0 1 -3")}, {rows("0 0 1 1/2", "1 0 0 0", "0 1 0 1/3"), rows("0 1 0 0", "0 0 1 -1/3", "1 0 0 -1/2")}, {rows("1 2 3 0", "0 1 4 0", "5 6 0 1"), rows("-24 18 5 -5", "20 -15 -4 4", "-5 4 1 -1")},
		{rows("1 0 0 0", "0 1 0 0", "0 0 -1 2"), rows("1 0 0 0", "0 1 0 0", "0 0 -1 2")}, {rows("1 1/2 0 0", "0 1 0 0", "0 0 1 0"), rows("1 -1/2 0 0", "0 1 0 0", "0 0 1 0")}, {rows("1/3 0 0 1/3", "0 1/3 0 1/3", "0 0 1/3 1/3"), rows("3 0 0 -1", "0 3 0 -1", "0 0 3 -1")},
	} {
		inForms(c[0], func(m api.Map) {
			if got, ok := affine.Inverse(m); !ok || got != c[1] {
				t.Errorf("Inverse(%#v) = %s, %v, want %s", m, show(got), ok, show(c[1]))
			}
		})
	}
	count := map[bool]int{}
	eachMap(func(m api.Map) {
		count[checkInverse(t, m)]++
	})
	if min(count[false], count[true]) < 100 {
		t.Errorf("invertible maps: %v", count)
	}
}

func TestNoInverse(t *testing.T) {
	for _, m := range []api.Map{
		{}, rows("0 0 0 1", "0 0 0 2/3", "0 0 0 -3"), rows("0 0 0 0", "0 1 0 0", "0 0 1 0"), rows("1 0 0 0", "0 0 0 5", "0 0 1 0"), rows("1 0 0 0", "0 1 0 0", "0 0 0 -1"), rows("0 1 0 0", "0 2 0 0", "0 0 1 0"),
		rows("1 2 3 4", "5 6 7 8", "9 10 11 13"), rows("1 2 3 4", "2 4 6 7", "-1/2 -1 -3/2 9"), rows("1 2 3 4", "1 2 3 5", "0 1 0 0"), rows("1/2 1/2 1/3 0", "1/5 1/5 -2 0", "7 7 1/7 0"), rows("1 1/3 0 0", "3 1 0 0", "0 0 1 0"),
	} {
		inForms(m, func(m api.Map) {
			if got, ok := affine.Inverse(m); ok || got != (api.Map{}) {
				t.Errorf("Inverse(%#v) = %s, %v, want false", m, show(got), ok)
			}
			for _, p := range planes() {
				if got, ok := affine.ApplyPlane(m, p); ok || got != (api.Plane{}) {
					t.Errorf("ApplyPlane(%#v, %s) = %s, %v, want false", m, plane.Format(p), plane.Format(got), ok)
				}
			}
			if got := affine.Determinant(m); got != (api.Rational{}) {
				t.Errorf("Determinant(%#v) = %s, want 0", m, rational.Format(got))
			}
		})
	}
}

// P7.2

func TestInverseUndoes(t *testing.T) {
	undone := 0
	withPoints(func(m api.Map, x api.Point) {
		inverse, ok := affine.Inverse(m)
		if !ok {
			return
		}
		undone++
		if got := affine.ApplyPoint(inverse, affine.ApplyPoint(m, x)); got != x {
			t.Fatalf("%s, mapped by %s and back, is %s", point.Format(x), show(m), point.Format(got))
		}
		if got := affine.ApplyPoint(m, affine.ApplyPoint(inverse, x)); got != x {
			t.Fatalf("%s, mapped by the inverse of %s and back, is %s", point.Format(x), show(m), point.Format(got))
		}
	})
	withPlanes(func(m api.Map, p api.Plane) {
		inverse, ok := affine.Inverse(m)
		if !ok {
			return
		}
		undone++
		image, _ := affine.ApplyPlane(m, p)
		if got, ok := affine.ApplyPlane(inverse, image); !ok || got != p {
			t.Fatalf("%s, mapped by %s and back, is %s", plane.Format(p), show(m), plane.Format(got))
		}
	})
	if undone < 1000 {
		t.Errorf("only %d inverse maps", undone)
	}
}

func TestInverseOfInverse(t *testing.T) {
	identity := affine.Identity()
	eachMap(func(m api.Map) {
		inverse, ok := affine.Inverse(m)
		if ok != (affine.Determinant(m) != api.Rational{}) {
			t.Fatalf("Inverse(%s) = %s, %v", show(m), show(inverse), ok)
		}
		if !ok {
			return
		}
		if after, before := affine.Compose(inverse, m), affine.Compose(m, inverse); after != identity || before != identity {
			t.Fatalf("%s and its inverse compose to %s and %s", show(m), show(after), show(before))
		}
		if got, ok := affine.Inverse(inverse); !ok || got != fromMapping(toMapping(m)) {
			t.Fatalf("the inverse of the inverse of %s is %s, %v", show(m), show(got), ok)
		}
		if product := rational.Mul(affine.Determinant(m), affine.Determinant(inverse)); product != rational.FromInt64(1) {
			t.Fatalf("the determinants of %s and of its inverse have the product %s", show(m), rational.Format(product))
		}
	})
}

func TestSidesAreKept(t *testing.T) {
	count := map[[2]int]int{}
	r, spots := rand.New(rand.NewSource(7)), points()[:6:6]
	withPlanes(func(m api.Map, p api.Plane) {
		q, ok := affine.ApplyPlane(m, p)
		if !ok {
			return
		}
		list := append(spots, randomPoint(r, 10))
		for _, corner := range corners(toEquation(p)) {
			list = append(list, fromVector(corner), fromVector(combine(corner, normal(toEquation(p)), big.NewRat(1, 1000))), fromVector(combine(corner, normal(toEquation(p)), big.NewRat(-1, 1000))))
		}
		orientation := rational.Sign(affine.Determinant(m))
		for _, x := range list {
			side := plane.Side(p, x)
			if got := plane.Side(q, affine.ApplyPoint(m, x)); got != side {
				t.Fatalf("%s is on side %d of %s, but on side %d after %s", point.Format(x), side, plane.Format(p), got, show(m))
			}
			count[[2]int{orientation, side}]++
		}
	})
	for _, orientation := range []int{-1, 1} {
		if min(count[[2]int{orientation, -1}], count[[2]int{orientation, 0}], count[[2]int{orientation, 1}]) < 1000 {
			t.Errorf("signs of the determinant and sides: %v", count)
		}
	}
}

func TestFlippedPlanes(t *testing.T) {
	withPlanes(func(m api.Map, p api.Plane) {
		got, ok := affine.ApplyPlane(m, plane.Flip(p))
		if want, valid := affine.ApplyPlane(m, p); got != plane.Flip(want) || ok != valid {
			t.Fatalf("ApplyPlane(%s, %s) = %s, %v, want the flip of %s", show(m), plane.Format(plane.Flip(p)), plane.Format(got), ok, plane.Format(want))
		}
	})
}

// P7.3

func TestComposedMaps(t *testing.T) {
	r, spots, flats := rand.New(rand.NewSource(8)), points(), planes()
	pairs(func(a, b api.Map) {
		both := affine.Compose(a, b)
		for _, x := range []api.Point{spots[r.Intn(len(spots))], randomPoint(r, 8)} {
			if got, want := affine.ApplyPoint(both, x), affine.ApplyPoint(a, affine.ApplyPoint(b, x)); got != want {
				t.Fatalf("%s and then %s map %s to %s, want %s", show(b), show(a), point.Format(x), point.Format(got), point.Format(want))
			}
		}
		p := flats[r.Intn(len(flats))]
		middle, first := affine.ApplyPlane(b, p)
		want, second := affine.ApplyPlane(a, middle)
		if got, ok := affine.ApplyPlane(both, p); ok != (first && second) || ok && got != want {
			t.Fatalf("%s and then %s map %s to %s, want %s", show(b), show(a), plane.Format(p), plane.Format(got), plane.Format(want))
		}
	})
}

func TestDeterminantsMultiply(t *testing.T) {
	count := map[int]int{}
	pairs(func(a, b api.Map) {
		got, want := affine.Determinant(affine.Compose(a, b)), rational.Mul(affine.Determinant(a), affine.Determinant(b))
		if got != want {
			t.Fatalf("the composition of %s and %s has the determinant %s, want %s", show(a), show(b), rational.Format(got), rational.Format(want))
		}
		count[rational.Sign(want)]++
	})
	if min(count[-1], count[0], count[1]) < 100 {
		t.Errorf("negative, zero and positive determinants: %v", count)
	}
}

func TestCompositionIsAssociative(t *testing.T) {
	r, list := rand.New(rand.NewSource(9)), maps()
	pairs(func(a, b api.Map) {
		c := list[r.Intn(len(list))]
		if left, right := affine.Compose(affine.Compose(a, b), c), affine.Compose(a, affine.Compose(b, c)); left != right {
			t.Fatalf("compositions of %s, %s and %s: %s, %s", show(a), show(b), show(c), show(left), show(right))
		}
	})
	eachMap(func(m api.Map) {
		want := fromMapping(toMapping(m))
		if left, right := affine.Compose(affine.Identity(), m), affine.Compose(m, affine.Identity()); left != want || right != want {
			t.Fatalf("compositions of %s with the identity: %s, %s", show(m), show(left), show(right))
		}
	})
}

func TestTwoReflections(t *testing.T) {
	eachPlane(func(p api.Plane) {
		m := affine.Reflection(p)
		if got := affine.Compose(m, m); got != affine.Identity() {
			t.Fatalf("two reflections in %s are %s", plane.Format(p), show(got))
		}
		if got := affine.Determinant(m); got != rational.FromInt64(-1) {
			t.Fatalf("the reflection in %s has the determinant %s", plane.Format(p), rational.Format(got))
		}
		if got, ok := affine.ApplyPlane(m, p); !ok || got != plane.Flip(p) {
			t.Fatalf("the reflection in %s maps it to %s, %v", plane.Format(p), plane.Format(got), ok)
		}
		for _, x := range corners(toEquation(p)) {
			if got := affine.ApplyPoint(m, fromVector(x)); got != fromVector(x) {
				t.Fatalf("the reflection in %s maps its point %s to %s", plane.Format(p), point.Format(fromVector(x)), point.Format(got))
			}
		}
	})
}

func TestFourQuarterTurns(t *testing.T) {
	for axis := range 3 {
		for _, quarters := range quarterTurns() {
			once, _ := affine.Rotation(axis, quarters)
			twice := affine.Compose(once, once)
			if got := affine.Compose(twice, twice); got != affine.Identity() {
				t.Errorf("four times %d quarter turns about axis %d are %s", quarters, axis, show(got))
			}
			back, _ := affine.Rotation(axis, -quarters)
			if got := affine.Compose(back, once); got != affine.Identity() {
				t.Errorf("%d quarter turns about axis %d and back are %s", quarters, axis, show(got))
			}
			next, _ := affine.Rotation(axis, quarters+1)
			quarter, _ := affine.Rotation(axis, 1)
			if got := affine.Compose(quarter, once); got != next {
				t.Errorf("%d and one quarter turns about axis %d are %s, want %s", quarters, axis, show(got), show(next))
			}
			if got := affine.Determinant(once); got != rational.FromInt64(1) {
				t.Errorf("%d quarter turns about axis %d have the determinant %s", quarters, axis, rational.Format(got))
			}
		}
	}
}

func TestTranslationAndBack(t *testing.T) {
	spots := points()[:5]
	eachVec(func(v api.Vec3) {
		there := affine.Translation(v)
		back := affine.Translation(api.Vec3{rational.Neg(v[0]), rational.Neg(v[1]), rational.Neg(v[2])})
		if after, before := affine.Compose(back, there), affine.Compose(there, back); after != affine.Identity() || before != affine.Identity() {
			t.Fatalf("translations by %#v and back compose to %s and %s", v, show(after), show(before))
		}
		if got, ok := affine.Inverse(there); !ok || got != back {
			t.Fatalf("the inverse of the translation by %#v is %s, %v, want %s", v, show(got), ok, show(back))
		}
		for _, x := range spots {
			if got, want := affine.ApplyPoint(there, x), point.Add(x, v); got != want {
				t.Fatalf("the translation by %#v maps %s to %s, want %s", v, point.Format(x), point.Format(got), point.Format(want))
			}
		}
	})
}

// TestOtherArguments checks that planes and points that are invalid or not in canonical form cause no panic.
func TestOtherArguments(t *testing.T) {
	numbers := []api.Int{{}, {Neg: true}, {Neg: true, Mag: "\x00\x00"}, {Mag: "\x01"}, {Neg: true, Mag: "\x06\x00"}, {Mag: strings.Repeat("\xff", 40)}}
	r := rand.New(rand.NewSource(10))
	list := append(maps(), api.Map{}, randomMap(r, 3), randomMap(r, 30))
	for _, a := range numbers {
		for _, b := range numbers {
			for _, c := range numbers {
				for _, d := range numbers {
					p, x := api.Plane{A: a, B: b, C: c, D: d}, api.Point{X: a, Y: b, Z: c, W: d}
					m := affine.Reflection(p)
					affine.ApplyPlane(m, p)
					affine.ApplyPoint(m, x)
					m = list[r.Intn(len(list))]
					affine.ApplyPlane(m, p)
					affine.ApplyPoint(m, x)
				}
			}
		}
	}
}

func FuzzAffine(f *testing.F) {
	f.Add("\x01\x02\x03\x04\x05\x06\x07\x08\x09\x0a\x0c\x0b", "\x07\x00\x01\xff\x02", uint64(0), int64(1), int64(2), int64(3), int64(4))
	f.Add("\x01\x00\x00\x00\x00\x01\x00\x00\x00\x00\x01\x00", "\x02\x00\x00\x00\x00\x03\x00\x00\x00\x00\x05\x00", uint64(1<<60-1), int64(0), int64(7), int64(-1), int64(0))
	f.Fuzz(func(t *testing.T, first, second string, signs uint64, j, k, m, n int64) {
		if len(first)+len(second) > 300 {
			t.Skip("too slow")
		}
		part := func(text string, i int) string { return text[i*len(text)/12 : (i+1)*len(text)/12] }
		var a, b api.Map
		for i := range a {
			a[i] = api.Rational{Neg: signs>>i&1 != 0, Num: part(first, i), Den: part(second, i)}
			b[i] = api.Rational{Neg: signs>>(i+12)&1 != 0, Num: part(second, (i+5)%12), Den: part(first, (i+7)%12)}
		}
		p, ok := canonical(toEquation(of(j, k, m, n)))
		if !ok {
			p = of(1, 0, 0, n)
		}
		x := fromVector(vector{bigRat(a[1]), big.NewRat(j, 7), bigRat(b[2])})
		for _, c := range []api.Map{a, b, affine.Compose(a, b), affine.Reflection(p), affine.Translation(api.Vec3{a[0], a[1], a[2]})} {
			checkDeterminant(t, c)
			checkInverse(t, c)
			checkPoint(t, c, x)
			checkPlane(t, c, p)
			checkCompose(t, c, b)
		}
		want := fromMapping(mapped(func(x vector) vector { return reflected(toEquation(p), x) }))
		if got := affine.Reflection(p); got != want {
			t.Fatalf("Reflection(%s) = %s, want %s", plane.Format(p), show(got), show(want))
		}
	})
}
