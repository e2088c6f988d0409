package plane_test

import (
	"math/big"
	"math/rand"
	"regexp"
	"slices"
	"strings"
	"testing"

	"voussoir/api"
	"voussoir/plane"
	"voussoir/point"
)

// vector is a vector or a point with Cartesian coordinates, computed without the layers under test.
type vector [3]*big.Rat

// equation holds A, B, C and D of A*x + B*y + C*z = D, also computed without the layers under test.
type equation [4]*big.Rat

// natural returns the number that a magnitude represents.
func natural(magnitude string) *big.Int {
	bytes := []byte(magnitude)
	slices.Reverse(bytes)
	return new(big.Int).SetBytes(bytes)
}

// magnitude returns the magnitude of n without trailing zero bytes.
func magnitude(n *big.Int) string {
	bytes := n.Bytes()
	slices.Reverse(bytes)
	return string(bytes)
}

// bigInt returns the number that x represents, in whatever form x is.
func bigInt(x api.Int) *big.Int {
	n := natural(x.Mag)
	if x.Neg {
		n.Neg(n)
	}
	return n
}

// fromBigInt returns n in canonical form.
func fromBigInt(n *big.Int) api.Int {
	return api.Int{Neg: n.Sign() < 0, Mag: magnitude(n)}
}

// orOne returns n, or 1 if n is zero.
func orOne(n *big.Int) *big.Int {
	if n.Sign() == 0 {
		return big.NewInt(1)
	}
	return n
}

// bigRat returns the number that x represents, in whatever representation x is.
func bigRat(x api.Rational) *big.Rat {
	return new(big.Rat).SetFrac(bigInt(api.Int{Neg: x.Neg, Mag: x.Num}), orOne(natural(x.Den)))
}

// fromBigRat returns n in canonical form.
func fromBigRat(n *big.Rat) api.Rational {
	x := api.Rational{Neg: n.Sign() < 0, Num: magnitude(n.Num())}
	if !n.IsInt() {
		x.Den = magnitude(n.Denom())
	}
	return x
}

// number returns the rational number with the text s.
func number(s string) *big.Rat {
	n, ok := new(big.Rat).SetString(s)
	if !ok {
		panic(s)
	}
	return n
}

// coprime returns the numbers divided by a positive number, such that they are integers without a common divisor.
func coprime(numbers []*big.Rat) []api.Int {
	common, divisor := big.NewInt(1), new(big.Int)
	for _, x := range numbers {
		common.Mul(common, x.Denom())
	}
	var integers []*big.Int
	for _, x := range numbers {
		n := new(big.Rat).Mul(x, new(big.Rat).SetInt(common)).Num()
		divisor.GCD(nil, nil, divisor, new(big.Int).Abs(n))
		integers = append(integers, n)
	}
	var result []api.Int
	for _, n := range integers {
		result = append(result, fromBigInt(new(big.Int).Quo(n, orOne(divisor))))
	}
	return result
}

// canonical returns the plane with the equation e in canonical form, or false if A, B and C are 0.
func canonical(e equation) (api.Plane, bool) {
	if e[0].Sign() == 0 && e[1].Sign() == 0 && e[2].Sign() == 0 {
		return api.Plane{}, false
	}
	c := coprime(e[:])
	return api.Plane{A: c[0], B: c[1], C: c[2], D: c[3]}, true
}

// toEquation returns the equation of p, in whatever form p is.
func toEquation(p api.Plane) equation {
	var e equation
	for i, x := range []api.Int{p.A, p.B, p.C, p.D} {
		e[i] = new(big.Rat).SetInt(bigInt(x))
	}
	return e
}

// toVector returns the Cartesian coordinates of p.
func toVector(p api.Point) vector {
	w := orOne(bigInt(p.W))
	return vector{new(big.Rat).SetFrac(bigInt(p.X), w), new(big.Rat).SetFrac(bigInt(p.Y), w), new(big.Rat).SetFrac(bigInt(p.Z), w)}
}

// fromVector returns the point with the coordinates v in canonical form.
func fromVector(v vector) api.Point {
	c := coprime(append(v[:], big.NewRat(1, 1)))
	return api.Point{X: c[0], Y: c[1], Z: c[2], W: c[3]}
}

// combine returns x + k * y.
func combine(x, y vector, k *big.Rat) vector {
	var sum vector
	for i := range sum {
		sum[i] = new(big.Rat).Mul(k, y[i])
		sum[i].Add(sum[i], x[i])
	}
	return sum
}

// product returns the scalar product of x and y.
func product(x, y vector) *big.Rat {
	sum := new(big.Rat)
	for i := range x {
		sum.Add(sum, new(big.Rat).Mul(x[i], y[i]))
	}
	return sum
}

// normal returns A, B and C.
func normal(e equation) vector {
	return vector{e[0], e[1], e[2]}
}

// excess returns A*x + B*y + C*z - D.
func excess(e equation, x vector) *big.Rat {
	return new(big.Rat).Sub(product(normal(e), x), e[3])
}

// through returns the equation of the plane through three points: its normal vector is (b - a) × (c - a).
func through(a, b, c vector) equation {
	minus := big.NewRat(-1, 1)
	u, v := combine(b, a, minus), combine(c, a, minus)
	minor := func(i, j int) *big.Rat {
		return new(big.Rat).Sub(new(big.Rat).Mul(u[i], v[j]), new(big.Rat).Mul(u[j], v[i]))
	}
	n := vector{minor(1, 2), minor(2, 0), minor(0, 1)}
	return equation{n[0], n[1], n[2], product(n, a)}
}

// axisOf returns the axis of e and whether e faces upwards.
func axisOf(e equation) (int, bool) {
	best := 2
	for _, axis := range []int{1, 0} {
		if new(big.Rat).Abs(e[axis]).Cmp(new(big.Rat).Abs(e[best])) > 0 {
			best = axis
		}
	}
	return best, e[best].Sign() > 0
}

// alongAxis returns the vector by which offsetting e by h translates it.
func alongAxis(e equation, h *big.Rat) vector {
	v := vector{new(big.Rat), new(big.Rat), new(big.Rat)}
	axis, upwards := axisOf(e)
	if v[axis].Set(h); !upwards {
		v[axis].Neg(h)
	}
	return v
}

// project returns the projection of x onto e.
func project(e equation, x vector) vector {
	axis, _ := axisOf(e)
	x[axis] = new(big.Rat).Sub(x[axis], new(big.Rat).Quo(excess(e, x), e[axis]))
	return x
}

// offset returns e translated by h: n·(x - v) = D is n·x = D + n·v.
func offset(e equation, h *big.Rat) equation {
	e[3] = new(big.Rat).Add(e[3], product(normal(e), alongAxis(e, h)))
	return e
}

// compare compares equations lexicographically.
func compare(x, y equation) int {
	return slices.CompareFunc(x[:], y[:], (*big.Rat).Cmp)
}

// of returns the plane with the given coefficients, as they are.
func of(a, b, c, d int64) api.Plane {
	return api.Plane{A: fromBigInt(big.NewInt(a)), B: fromBigInt(big.NewInt(b)), C: fromBigInt(big.NewInt(c)), D: fromBigInt(big.NewInt(d))}
}

// at returns the point with the coordinates with the texts x, y and z in canonical form.
func at(x, y, z string) api.Point {
	return fromVector(vector{number(x), number(y), number(z)})
}

// vec returns the vector with the components with the texts x, y and z in canonical form.
func vec(x, y, z string) api.Vec3 {
	return api.Vec3{fromBigRat(number(x)), fromBigRat(number(y)), fromBigRat(number(z))}
}

// loosened returns the plane p with all coefficients multiplied by factor, with the given number of zero bytes after
// all magnitudes, and all zeros negative.
func loosened(p api.Plane, factor int64, zeros int) api.Plane {
	for _, x := range []*api.Int{&p.A, &p.B, &p.C, &p.D} {
		n := fromBigInt(new(big.Int).Mul(bigInt(*x), big.NewInt(factor)))
		*x = api.Int{Neg: n.Neg || n.Mag == "", Mag: n.Mag + strings.Repeat("\x00", zeros)}
	}
	return p
}

// forms returns forms of p, which is in canonical form: with common divisors and with integers that are not in
// canonical form.
func forms(p api.Plane) []api.Plane {
	list := []api.Plane{p}
	for i, factor := range []int64{1, 2, 3, 256, 65535, 1 << 62} {
		list = append(list, loosened(p, factor, i))
	}
	return list
}

// rationalForms returns representations of x, which is in canonical form.
func rationalForms(x api.Rational) []api.Rational {
	list := []api.Rational{x, {Neg: x.Neg, Num: x.Num + "\x00", Den: x.Den + "\x00\x00"}}
	for _, factor := range []int64{1, 6, 256} {
		f := big.NewInt(factor)
		list = append(list, api.Rational{Neg: x.Neg || x.Num == "", Num: magnitude(new(big.Int).Mul(f, natural(x.Num))), Den: magnitude(new(big.Int).Mul(f, orOne(natural(x.Den))))})
	}
	return list
}

// vecForms returns representations of v, which has components in canonical form.
func vecForms(v api.Vec3) []api.Vec3 {
	x, y, z := rationalForms(v[0]), rationalForms(v[1]), rationalForms(v[2])
	var list []api.Vec3
	for i := range x {
		list = append(list, api.Vec3{x[i], y[i], z[i]}, api.Vec3{x[i], y[(i+1)%len(y)], z[(i+3)%len(z)]})
	}
	return list
}

// planes returns planes in canonical form: all combinations of small coefficients, and some with large ones.
func planes() []api.Plane {
	var list []api.Plane
	for a := int64(-2); a <= 2; a++ {
		for b := int64(-2); b <= 2; b++ {
			for c := int64(-2); c <= 2; c++ {
				for _, d := range []int64{-3, 0, 4} {
					p, ok := canonical(toEquation(of(a, b, c, d)))
					if ok && p == of(a, b, c, d) {
						list = append(list, p)
					}
				}
			}
		}
	}
	return append(list, largePlanes()...)
}

// largePlanes returns planes in canonical form with coefficients of one byte and of many, in all orders of magnitude.
func largePlanes() []api.Plane {
	nines, power := strings.Repeat("9", 40), "1"+strings.Repeat("0", 40)
	var list []api.Plane
	for _, e := range []equation{
		{number("255"), number("-256"), number("257"), number("1000")}, {number("-65536"), number("65535"), number("0"), number("-7")},
		{number("1/3"), number("2/5"), number("-3/7"), number("100")}, {number("1"), number("-1/1000"), number("1/1000000"), number("0")},
		{number(nines), number("-" + power), number(power), number("1")}, {number("-" + power), number(power), number(nines), number("-" + nines)},
		{number(power), number("-" + power), number(power), number("3")}, {number("-" + power), number(nines), number("-" + nines), number("5")},
		{number("1"), number("0"), number("-1/" + power), number(nines)}, {number("18446744073709551616"), number("18446744073709551615"), number("-18446744073709551616"), number("1")},
	} {
		p, _ := canonical(e)
		list = append(list, p)
	}
	return list
}

// points returns points in canonical form: all combinations of small coordinates, and some with large ones.
func points() []api.Point {
	list := []api.Point{
		at("1000", "-1000", "999999/1000"), at("1/2", "1/3", "-1/7"), at("18446744073709551616", "1/18446744073709551615", "-9223372036854775808/3"),
		at("-"+strings.Repeat("9", 40), "1/"+strings.Repeat("9", 40), "0"),
	}
	for _, x := range []string{"0", "1", "-1/2"} {
		for _, y := range []string{"0", "1", "-1/2"} {
			for _, z := range []string{"0", "1", "-1/2"} {
				list = append(list, at(x, y, z))
			}
		}
	}
	return list
}

// offsets returns numbers in canonical form by which planes are offset.
func offsets() []api.Rational {
	var list []api.Rational
	for _, s := range []string{"0", "1", "-1", "3", "1/2", "-2/3", "-1000", "18446744073709551617/5", "-1/18446744073709551616"} {
		list = append(list, fromBigRat(number(s)))
	}
	return list
}

// randomInt returns an integer of up to size bytes, in any form. Zeros and small bytes are frequent.
func randomInt(r *rand.Rand, size int) api.Int {
	bytes := make([]byte, r.Intn(size+1))
	for i := range bytes {
		bytes[i] = []byte{0, 1, 2, 6, 0xff, byte(r.Intn(256)), byte(r.Intn(256))}[r.Intn(7)]
	}
	return api.Int{Neg: r.Intn(2) == 0, Mag: string(bytes)}
}

// randomRational returns a number with magnitudes of up to size bytes, in any representation.
func randomRational(r *rand.Rand, size int) api.Rational {
	n := randomInt(r, size)
	return api.Rational{Neg: n.Neg, Num: n.Mag, Den: randomInt(r, size).Mag}
}

// randomVec returns a vector with magnitudes of up to size bytes, in any representation.
func randomVec(r *rand.Rand, size int) api.Vec3 {
	return api.Vec3{randomRational(r, size), randomRational(r, size), randomRational(r, size)}
}

// randomCoefficients returns a plane with magnitudes of up to size bytes, in any form and perhaps invalid.
func randomCoefficients(r *rand.Rand, size int) api.Plane {
	return api.Plane{A: randomInt(r, size), B: randomInt(r, size), C: randomInt(r, size), D: randomInt(r, size)}
}

// randomPlane returns a plane in canonical form whose coefficients had up to size bytes.
func randomPlane(r *rand.Rand, size int) api.Plane {
	for {
		if p, ok := canonical(toEquation(randomCoefficients(r, size))); ok {
			return p
		}
	}
}

// randomPoint returns a point in canonical form whose integers had up to size bytes.
func randomPoint(r *rand.Rand, size int) api.Point {
	return fromVector(toVector(api.Point{X: randomInt(r, size), Y: randomInt(r, size), Z: randomInt(r, size), W: randomInt(r, size)}))
}

// eachPlane calls check with planes in canonical form, up to many bytes.
func eachPlane(check func(p api.Plane)) {
	for _, p := range planes() {
		check(p)
	}
	r := rand.New(rand.NewSource(1))
	for range 500 {
		check(randomPlane(r, 1))
		check(randomPlane(r, 25))
	}
	check(randomPlane(r, 300))
}

// withPoints calls check with planes and points in canonical form, up to many bytes.
func withPoints(check func(p api.Plane, x api.Point)) {
	for _, p := range planes() {
		for _, x := range points() {
			check(p, x)
		}
	}
	r := rand.New(rand.NewSource(2))
	for range 1000 {
		check(randomPlane(r, 1), randomPoint(r, 1))
		check(randomPlane(r, 12), randomPoint(r, 12))
	}
	check(randomPlane(r, 200), randomPoint(r, 200))
}

// withOffsets calls check with planes in canonical form and numbers.
func withOffsets(check func(p api.Plane, h api.Rational)) {
	for _, p := range planes() {
		for _, h := range offsets() {
			check(p, h)
		}
	}
	r := rand.New(rand.NewSource(3))
	for range 1000 {
		check(randomPlane(r, 1), fromBigRat(bigRat(randomRational(r, 1))))
		check(randomPlane(r, 20), fromBigRat(bigRat(randomRational(r, 20))))
	}
	check(randomPlane(r, 200), fromBigRat(bigRat(randomRational(r, 200))))
}

// triples calls check with three points in canonical form, which are often collinear.
func triples(check func(a, b, c api.Point)) {
	list := points()
	for _, a := range list {
		for _, b := range list {
			for _, c := range list {
				check(a, b, c)
			}
		}
	}
	r := rand.New(rand.NewSource(4))
	for range 1000 {
		check(randomPoint(r, 1), randomPoint(r, 1), randomPoint(r, 1))
		a, b, c := randomPoint(r, 12), randomPoint(r, 12), randomPoint(r, 12)
		check(a, b, c)
		line := combine(toVector(a), combine(toVector(b), toVector(a), big.NewRat(-1, 1)), bigRat(randomRational(r, 3)))
		check(a, b, fromVector(line))
	}
	check(randomPoint(r, 120), randomPoint(r, 120), randomPoint(r, 120))
}

// P5.1

func TestNormalize(t *testing.T) {
	for _, c := range [][2]api.Plane{
		{of(1, 0, 0, 0), of(1, 0, 0, 0)}, {of(2, 0, 0, 4), of(1, 0, 0, 2)}, {of(0, -7, 0, 0), of(0, -1, 0, 0)}, {of(0, 0, -5, 10), of(0, 0, -1, 2)},
		{of(-6, 9, 0, 3), of(-2, 3, 0, 1)}, {of(4, 6, 8, 9), of(4, 6, 8, 9)}, {of(4, 6, 9, 8), of(4, 6, 9, 8)}, {of(4, 9, 6, 8), of(4, 9, 6, 8)}, {of(9, 4, 6, 8), of(9, 4, 6, 8)},
		{of(6, 10, 15, 30), of(6, 10, 15, 30)}, {of(-2, -2, -2, -2), of(-1, -1, -1, -1)}, {of(12, -18, 24, 30), of(2, -3, 4, 5)}, {of(512, 256, 0, -768), of(2, 1, 0, -3)},
		{of(3, 0, 0, 1), of(3, 0, 0, 1)}, {of(0, 0, 4, 6), of(0, 0, 2, 3)}, {of(0, 0, -9223372036854775808, 4), of(0, 0, -2305843009213693952, 1)},
		{{A: api.Int{Mag: "\x02\x00"}, B: api.Int{Neg: true}, C: api.Int{Neg: true, Mag: "\x00\x00"}, D: api.Int{Neg: true, Mag: "\x04\x00\x00"}}, of(1, 0, 0, -2)},
		{{A: api.Int{Neg: true, Mag: "\x00"}, B: api.Int{Mag: "\x00"}, C: api.Int{Neg: true, Mag: "\x06\x00"}, D: api.Int{Neg: true}}, of(0, 0, -1, 0)},
	} {
		if got, ok := plane.Normalize(c[0]); !ok || got != c[1] {
			t.Errorf("Normalize(%#v) = %#v, %v, want %#v", c[0], got, ok, c[1])
		}
	}
	for _, p := range []api.Plane{
		{}, of(0, 0, 0, 7), of(0, 0, 0, -1), {A: api.Int{Neg: true}, B: api.Int{Mag: "\x00"}, C: api.Int{Neg: true, Mag: "\x00\x00"}, D: api.Int{Mag: "\x03"}},
		{A: api.Int{Mag: strings.Repeat("\x00", 50)}, D: api.Int{Neg: true}},
	} {
		if got, ok := plane.Normalize(p); ok || got != (api.Plane{}) {
			t.Errorf("Normalize(%#v) = %#v, %v, want false", p, got, ok)
		}
	}
	check := func(p api.Plane) {
		got, ok := plane.Normalize(p)
		if want, valid := canonical(toEquation(p)); got != want || ok != valid {
			t.Fatalf("Normalize(%#v) = %#v, %v, want %#v, %v", p, got, ok, want, valid)
		}
	}
	r := rand.New(rand.NewSource(5))
	eachPlane(func(p api.Plane) {
		for _, q := range forms(p) {
			if got, ok := plane.Normalize(q); !ok || got != p {
				t.Fatalf("Normalize(%#v) = %#v, %v, want %#v", q, got, ok, p)
			}
		}
		check(randomCoefficients(r, 2))
		check(randomCoefficients(r, 30))
	})
}

func TestFromCoefficients(t *testing.T) {
	for _, c := range []struct {
		n    api.Vec3
		d    string
		want api.Plane
	}{
		{vec("1", "0", "0"), "0", of(1, 0, 0, 0)}, {vec("2", "0", "0"), "4", of(1, 0, 0, 2)}, {vec("2", "0", "0"), "1", of(2, 0, 0, 1)}, {vec("0", "0", "-3"), "6", of(0, 0, -1, 2)},
		{vec("1/2", "-1/3", "1"), "2", of(3, -2, 6, 12)}, {vec("1/2", "1/2", "1/2"), "1/2", of(1, 1, 1, 1)}, {vec("1", "2", "3"), "1/2", of(2, 4, 6, 1)},
		{vec("-1/2", "0", "0"), "1/3", of(-3, 0, 0, 2)}, {vec("0", "1/6", "0"), "-5/4", of(0, 2, 0, -15)}, {vec("1/6", "1/10", "1/15"), "1/7", of(35, 21, 14, 30)},
		{vec("4", "-6", "8"), "-10", of(2, -3, 4, -5)}, {vec("2/3", "-4/3", "2"), "0", of(1, -2, 3, 0)},
	} {
		for _, n := range vecForms(c.n) {
			for _, d := range rationalForms(fromBigRat(number(c.d))) {
				if got, ok := plane.FromCoefficients(n, d); !ok || got != c.want {
					t.Errorf("FromCoefficients(%#v, %#v) = %#v, %v, want %#v", n, d, got, ok, c.want)
				}
			}
		}
	}
	for _, n := range vecForms(api.Vec3{}) {
		for _, d := range append(rationalForms(api.Rational{}), rationalForms(fromBigRat(number("-2/3")))...) {
			if got, ok := plane.FromCoefficients(n, d); ok || got != (api.Plane{}) {
				t.Errorf("FromCoefficients(%#v, %#v) = %#v, %v, want false", n, d, got, ok)
			}
		}
	}
	r := rand.New(rand.NewSource(6))
	for i := range 3000 {
		n, d := randomVec(r, 1+i%20), randomRational(r, 1+i%25)
		got, ok := plane.FromCoefficients(n, d)
		if want, valid := canonical(equation{bigRat(n[0]), bigRat(n[1]), bigRat(n[2]), bigRat(d)}); got != want || ok != valid {
			t.Fatalf("FromCoefficients(%#v, %#v) = %#v, %v, want %#v, %v", n, d, got, ok, want, valid)
		}
	}
}

func TestThrough(t *testing.T) {
	for _, c := range []struct {
		a, b, c api.Point
		want    api.Plane
	}{
		{at("0", "0", "0"), at("1", "0", "0"), at("0", "1", "0"), of(0, 0, 1, 0)}, {at("0", "0", "0"), at("0", "1", "0"), at("1", "0", "0"), of(0, 0, -1, 0)},
		{at("0", "0", "5"), at("0", "1", "5"), at("1", "0", "5"), of(0, 0, -1, -5)}, {at("1", "0", "0"), at("0", "1", "0"), at("0", "0", "1"), of(1, 1, 1, 1)},
		{at("-3", "0", "0"), at("-3", "1", "0"), at("-3", "0", "1"), of(1, 0, 0, -3)}, {at("0", "1/2", "0"), at("0", "1/2", "1"), at("1", "1/2", "0"), of(0, 2, 0, 1)},
		{at("1/2", "0", "0"), at("0", "1/3", "0"), at("0", "0", "1/5"), of(2, 3, 5, 1)}, {at("0", "0", "1/5"), at("0", "1/3", "0"), at("1/2", "0", "0"), of(-2, -3, -5, -1)},
		{at("7", "7", "7"), at("9", "7", "7"), at("7", "7", "10"), of(0, -1, 0, -7)}, {at("1/2", "1/3", "4/5"), at("3/2", "1/3", "4/5"), at("1/2", "4/3", "4/5"), of(0, 0, 5, 4)},
	} {
		if got, ok := plane.Through(c.a, c.b, c.c); !ok || got != c.want {
			t.Errorf("Through(%s, %s, %s) = %#v, %v, want %#v", point.Format(c.a), point.Format(c.b), point.Format(c.c), got, ok, c.want)
		}
	}
	for _, c := range [][3]api.Point{
		{at("0", "0", "0"), at("0", "0", "0"), at("0", "0", "0")}, {at("1", "2", "3"), at("1", "2", "3"), at("4", "5", "7")}, {at("1", "2", "3"), at("4", "5", "7"), at("1", "2", "3")},
		{at("4", "5", "7"), at("1", "2", "3"), at("1", "2", "3")}, {at("0", "0", "0"), at("1", "2", "3"), at("2", "4", "6")}, {at("1", "1", "1"), at("-1", "-1", "-1"), at("0", "0", "0")},
		{at("1/2", "1/3", "1/4"), at("3/2", "1/3", "1/4"), at("7/9", "1/3", "1/4")}, {at("1", "0", "0"), at("0", "1", "0"), at("1/2", "1/2", "0")},
	} {
		if got, ok := plane.Through(c[0], c[1], c[2]); ok || got != (api.Plane{}) {
			t.Errorf("Through(%#v) = %#v, %v, want false", c, got, ok)
		}
	}
	collinear := 0
	triples(func(a, b, c api.Point) {
		got, ok := plane.Through(a, b, c)
		want, valid := canonical(through(toVector(a), toVector(b), toVector(c)))
		if got != want || ok != valid {
			t.Fatalf("Through(%#v, %#v, %#v) = %#v, %v, want %#v, %v", a, b, c, got, ok, want, valid)
		}
		if !valid {
			collinear++
		}
	})
	if collinear < 1000 {
		t.Errorf("only %d collinear triples", collinear)
	}
}

func TestFlip(t *testing.T) {
	for _, c := range [][2]api.Plane{
		{of(0, 0, 1, 0), of(0, 0, -1, 0)}, {of(1, -2, 0, 5), of(-1, 2, 0, -5)}, {of(-1, -1, -1, -1), of(1, 1, 1, 1)}, {of(0, 3, 0, -256), of(0, -3, 0, 256)},
	} {
		if got := plane.Flip(c[0]); got != c[1] {
			t.Errorf("Flip(%#v) = %#v, want %#v", c[0], got, c[1])
		}
	}
	eachPlane(func(p api.Plane) {
		e := toEquation(p)
		for _, x := range e {
			x.Neg(x)
		}
		flipped := plane.Flip(p)
		if want, _ := canonical(e); flipped != want || plane.Flip(flipped) != p {
			t.Fatalf("Flip(%#v) = %#v, want %#v", p, flipped, want)
		}
	})
	withPoints(func(p api.Plane, x api.Point) {
		if plane.Side(plane.Flip(p), x) != -plane.Side(p, x) {
			t.Fatalf("the sides of %#v and of its flip for %#v", p, x)
		}
	})
}

// P5.2

func TestSide(t *testing.T) {
	for _, c := range []struct {
		p    api.Plane
		x    api.Point
		want int
	}{
		{of(0, 0, 1, 0), at("0", "0", "0"), 0}, {of(0, 0, 1, 0), at("5", "6", "1/7"), 1}, {of(0, 0, 1, 0), at("5", "6", "-1/7"), -1}, {of(0, 0, -1, 0), at("5", "6", "-1/7"), 1},
		{of(1, 1, 1, 1), at("0", "0", "0"), -1}, {of(1, 1, 1, 1), at("1", "1", "0"), 1}, {of(1, 1, 1, 1), at("3", "-1", "-1"), 0}, {of(1, 1, 1, 1), at("1/2", "1/3", "1/6"), 0},
		{of(1, 1, 1, 1), at("1/2", "1/3", "1/5"), 1}, {of(1, 1, 1, 1), at("1/2", "1/3", "1/7"), -1}, {of(2, 0, 0, -5), at("-5/2", "9", "9"), 0}, {of(2, 0, 0, -5), at("-3", "9", "9"), -1},
		{of(2, 0, 0, -5), at("-2", "9", "9"), 1}, {of(0, -3, 0, 4), at("0", "-4/3", "0"), 0}, {of(0, -3, 0, 4), at("0", "-1", "0"), -1}, {of(0, -3, 0, 4), at("0", "-2", "0"), 1},
		{of(1, 0, 0, 2), at("4/3", "0", "0"), -1}, {of(1, 0, 0, 2), at("7/3", "0", "0"), 1},
	} {
		if got := plane.Side(c.p, c.x); got != c.want {
			t.Errorf("Side(%#v, %s) = %d, want %d", c.p, point.Format(c.x), got, c.want)
		}
	}
	count := map[int]int{}
	withPoints(func(p api.Plane, x api.Point) {
		got, want := plane.Side(p, x), excess(toEquation(p), toVector(x)).Sign()
		if got != want {
			t.Fatalf("Side(%#v, %#v) = %d, want %d", p, x, got, want)
		}
		count[want]++
		if on := fromVector(project(toEquation(p), toVector(x))); plane.Side(p, on) != 0 {
			t.Fatalf("Side(%#v, %#v) = %d, want 0", p, on, plane.Side(p, on))
		}
	})
	if min(count[-1], count[0], count[1]) < 200 {
		t.Errorf("points behind, on and in front: %v", count)
	}
}

func TestCmp(t *testing.T) {
	for _, c := range []struct {
		a, b api.Plane
		want int
	}{
		{of(0, 1, 0, 5), of(0, 1, 0, 6), -1}, {of(0, 1, 0, 5), of(0, 1, 0, -6), 1}, {of(0, 1, 0, 5), of(0, 1, 0, 5), 0}, {of(1, -9, 0, 0), of(0, 9, 9, 9), 1},
		{of(1, 2, 9, 9), of(1, 3, 0, 0), -1}, {of(1, 2, 3, 9), of(1, 2, 4, 0), -1}, {of(1, 2, -3, 0), of(1, 2, -4, 0), 1}, {of(-1, 0, 0, 0), of(1, 0, 0, 0), -1},
		{of(-256, 1, 0, 0), of(-255, 1, 0, 0), -1}, {of(0, -1, 0, 0), of(0, 0, -1, 0), -1}, {of(0, 0, 1, 0), of(0, 0, -1, 100), 1}, {of(1, 0, 0, 300), of(1, 0, 0, 2), 1},
	} {
		if got := plane.Cmp(c.a, c.b); got != c.want {
			t.Errorf("Cmp(%#v, %#v) = %d, want %d", c.a, c.b, got, c.want)
		}
	}
	check := func(a, b api.Plane) {
		got, want := plane.Cmp(a, b), compare(toEquation(a), toEquation(b))
		if got != want || (got == 0) != (a == b) {
			t.Fatalf("Cmp(%#v, %#v) = %d, want %d", a, b, got, want)
		}
	}
	for _, a := range planes() {
		for _, b := range planes() {
			check(a, b)
		}
	}
	r := rand.New(rand.NewSource(7))
	for range 2000 {
		a, b := randomPlane(r, 20), randomPlane(r, 20)
		check(a, b)
		check(a, plane.Offset(a, fromBigRat(bigRat(randomRational(r, 1)))))
	}
}

// P5.3

func TestAxis(t *testing.T) {
	for _, c := range []struct {
		p       api.Plane
		axis    int
		upwards bool
	}{
		{of(1, 0, 0, 9), 0, true}, {of(-1, 0, 0, 9), 0, false}, {of(0, 1, 0, -9), 1, true}, {of(0, -1, 0, 9), 1, false}, {of(0, 0, 1, -9), 2, true}, {of(0, 0, -1, 9), 2, false},
		{of(3, 2, 1, 9), 0, true}, {of(-3, 2, 1, 0), 0, false}, {of(2, 3, 1, 0), 1, true}, {of(2, -3, 1, 0), 1, false}, {of(1, 2, 3, 0), 2, true}, {of(1, 2, -3, 0), 2, false},
		{of(1, 1, 1, 0), 2, true}, {of(-1, -1, -1, 0), 2, false}, {of(1, 1, -1, 0), 2, false}, {of(-1, -1, 1, 0), 2, true}, {of(1, -1, 1, 0), 2, true}, {of(-1, 1, -1, 0), 2, false},
		{of(1, 1, 0, 0), 1, true}, {of(-1, 1, 0, 0), 1, true}, {of(1, -1, 0, 0), 1, false}, {of(2, -2, 1, 3), 1, false}, {of(-2, 2, -1, 3), 1, true},
		{of(1, 0, 1, 0), 2, true}, {of(1, 0, -1, 0), 2, false}, {of(-3, 1, 3, 6), 2, true}, {of(3, 1, -3, 6), 2, false}, {of(0, 1, 1, 0), 2, true}, {of(0, -1, 1, 0), 2, true}, {of(0, 1, -1, 0), 2, false},
		{of(-3, 1, 2, 6), 0, false}, {of(256, 255, -255, 0), 0, true}, {of(255, -256, 255, 0), 1, false}, {of(255, 255, 256, 0), 2, true},
	} {
		if axis, upwards := plane.Axis(c.p); axis != c.axis || upwards != c.upwards {
			t.Errorf("Axis(%#v) = %d, %v, want %d, %v", c.p, axis, upwards, c.axis, c.upwards)
		}
	}
	eachPlane(func(p api.Plane) {
		gotAxis, gotUpwards := plane.Axis(p)
		if axis, upwards := axisOf(toEquation(p)); gotAxis != axis || gotUpwards != upwards {
			t.Fatalf("Axis(%#v) = %d, %v, want %d, %v", p, gotAxis, gotUpwards, axis, upwards)
		}
	})
}

func TestProject(t *testing.T) {
	for _, c := range []struct {
		p       api.Plane
		x, want api.Point
	}{
		{of(0, 0, 1, 4), at("1", "2", "3"), at("1", "2", "4")}, {of(0, 0, -1, 4), at("1", "2", "3"), at("1", "2", "-4")}, {of(1, 1, 1, 0), at("1", "2", "3"), at("1", "2", "-3")},
		{of(-3, 1, 3, 6), at("1", "2", "3"), at("1", "2", "7/3")}, {of(-3, 1, 2, 6), at("1", "2", "3"), at("2/3", "2", "3")}, {of(2, -2, 1, 3), at("1", "2", "3"), at("1", "1", "3")},
		{of(2, 0, 0, 1), at("1/3", "1/5", "-1/7"), at("1/2", "1/5", "-1/7")}, {of(0, -4, 1, 0), at("0", "9", "1/2"), at("0", "1/8", "1/2")}, {of(0, 0, 1, 4), at("1/2", "1/3", "4"), at("1/2", "1/3", "4")},
		{of(-5, 0, 0, 0), at("0", "0", "0"), at("0", "0", "0")},
	} {
		if got := plane.Project(c.p, c.x); got != c.want {
			t.Errorf("Project(%#v, %s) = %s, want %s", c.p, point.Format(c.x), point.Format(got), point.Format(c.want))
		}
	}
	withPoints(func(p api.Plane, x api.Point) {
		if got, want := plane.Project(p, x), fromVector(project(toEquation(p), toVector(x))); got != want {
			t.Fatalf("Project(%#v, %#v) = %#v, want %#v", p, x, got, want)
		}
	})
}

func TestOffset(t *testing.T) {
	for _, c := range []struct {
		p    api.Plane
		h    string
		want api.Plane
	}{
		{of(0, 0, -1, 0), "3", of(0, 0, -1, 3)}, {of(0, 0, 1, 0), "3", of(0, 0, 1, 3)}, {of(0, 0, 1, 4), "-7", of(0, 0, 1, -3)}, {of(0, 0, -1, 4), "-7", of(0, 0, -1, -3)},
		{of(1, 1, 1, 0), "2", of(1, 1, 1, 2)}, {of(-3, 1, 3, 6), "2", of(-3, 1, 3, 12)}, {of(-3, 1, 2, 6), "2", of(-3, 1, 2, 12)}, {of(2, -2, 1, 3), "2", of(2, -2, 1, 7)},
		{of(-3, 1, 2, 6), "-2", of(-3, 1, 2, 0)}, {of(0, 2, 0, 1), "1/2", of(0, 1, 0, 1)}, {of(0, 2, 0, 1), "-1/2", of(0, 1, 0, 0)}, {of(1, 0, 0, 0), "1/3", of(3, 0, 0, 1)},
		{of(1, 2, -5, 1), "1/5", of(1, 2, -5, 2)}, {of(1, 2, -5, 1), "1/7", of(7, 14, -35, 12)}, {of(4, 6, 8, 9), "-1/8", of(2, 3, 4, 4)}, {of(2, -2, 1, 3), "0", of(2, -2, 1, 3)}, {of(4, 6, 8, 9), "0", of(4, 6, 8, 9)},
	} {
		for _, h := range rationalForms(fromBigRat(number(c.h))) {
			if got := plane.Offset(c.p, h); got != c.want {
				t.Errorf("Offset(%#v, %#v) = %#v, want %#v", c.p, h, got, c.want)
			}
		}
	}
	withOffsets(func(p api.Plane, h api.Rational) {
		want, _ := canonical(offset(toEquation(p), bigRat(h)))
		if got := plane.Offset(p, h); got != want {
			t.Fatalf("Offset(%#v, %#v) = %#v, want %#v", p, h, got, want)
		}
	})
}

// P5.4

func TestFormat(t *testing.T) {
	for s, p := range map[string]api.Plane{
		"[1 0 0 2]": of(1, 0, 0, 2), "[0 0 -1 3]": of(0, 0, -1, 3), "[3 -2 6 12]": of(3, -2, 6, 12), "[-1 -1 -1 -1]": of(-1, -1, -1, -1), "[0 1 0 0]": of(0, 1, 0, 0),
		"[256 -65536 10 -1000001]": of(256, -65536, 10, -1000001),
	} {
		if got := plane.Format(p); got != s {
			t.Errorf("Format(%#v) = %q, want %q", p, got, s)
		}
	}
	eachPlane(func(p api.Plane) {
		if got, want := plane.Format(p), "["+bigInt(p.A).String()+" "+bigInt(p.B).String()+" "+bigInt(p.C).String()+" "+bigInt(p.D).String()+"]"; got != want {
			t.Fatalf("Format(%#v) = %q, want %q", p, got, want)
		}
	})
}

// planeText matches the texts that Format returns, and others whose coefficients have leading zeros or are -0.
var planeText = regexp.MustCompile(`\A\[(-?[0-9]+) (-?[0-9]+) (-?[0-9]+) (-?[0-9]+)\]\z`)

// parseSimply returns what Parse must return, without the layers under test.
func parseSimply(s string) (api.Plane, bool) {
	texts := planeText.FindStringSubmatch(s)
	if texts == nil {
		return api.Plane{}, false
	}
	var e equation
	for i, text := range texts[1:] {
		e[i] = number(text)
		if e[i].RatString() != text {
			return api.Plane{}, false
		}
	}
	p, ok := canonical(e)
	if !ok || compare(toEquation(p), e) != 0 {
		return api.Plane{}, false
	}
	return p, true
}

func TestParse(t *testing.T) {
	for s, want := range map[string]api.Plane{
		"[1 0 0 2]": of(1, 0, 0, 2), "[0 0 -1 3]": of(0, 0, -1, 3), "[0 0 1 -4]": of(0, 0, 1, -4), "[-1 -1 -1 -1]": of(-1, -1, -1, -1), "[0 1 0 0]": of(0, 1, 0, 0),
		"[4 6 8 9]": of(4, 6, 8, 9), "[6 10 15 30]": of(6, 10, 15, 30), "[256 -65536 10 -1000001]": of(256, -65536, 10, -1000001),
	} {
		if got, ok := plane.Parse(s); !ok || got != want {
			t.Errorf("Parse(%q) = %#v, %v, want %#v", s, got, ok, want)
		}
	}
	eachPlane(func(p api.Plane) {
		s := plane.Format(p)
		if got, ok := plane.Parse(s); !ok || got != p {
			t.Fatalf("Parse(%q) = %#v, %v", s, got, ok)
		}
	})
}

func TestParseRefuses(t *testing.T) {
	for _, s := range []string{
		"", "[", "]", "[]", "][", "[ ]", "[   ]", "   ", "[1]", "[1 0]", "[1 0 0]", "[1 0 0 0 0]", "[1 0 0 ]", "[ 1 0 0]", "[1 0  0]", "[1 0 0 2 ]", "[ 1 0 0 2]",
		"1 0 0 2", "1 0 0 2]", "[1 0 0 2", "[[1 0 0 2]", "[1 0 0 2]]", "[[1 0 0 2]]", "(1 0 0 2)", "(1 0 0 2]", "[1 0 0 2)", "{1 0 0 2}", "<1 0 0 2>", "]1 0 0 2[", "[1 0 0 2][1 0 0 2]",
		"[1  0 0 2]", "[1 0  0 2]", "[1 0 0  2]", "[1 0 0 2]x", "x[1 0 0 2]", " [1 0 0 2]", "[1 0 0 2] ", "[1 0 0 2]\n", "\n[1 0 0 2]", "[1 0 0 2\n]", "[1\t0 0 2]", "[1\n0 0 2]",
		"[1,0,0,2]", "[1, 0, 0, 2]", "[1, 0 0 2]", "[1 0 0,2]", "[1 0 0 2,]", "[1;0;0;2]", "[1\u00a00 0 2]", "[1\u20030 0 2]", "[1 00 2]", "[100 2]", "[1 0 0 2]\x00", "\x00[1 0 0 2]", "[1 0 0\x00 2]",
		"[01 0 0 2]", "[1 00 0 2]", "[1 0 00 2]", "[1 0 0 02]", "[-01 0 0 2]", "[1 -0 0 2]", "[1 0 -0 2]", "[0 0 1 -0]", "[-0 0 1 0]", "[+1 0 0 2]", "[1 0 0 +2]", "[1 +0 0 2]",
		"[--1 0 0 2]", "[- 1 0 0 2]", "[- 0 0 2]", "[1 0 0 -]", "[1- 0 0 2]", "[-1- 0 0 2]", "[1 0 0 2-]", "[1/1 0 0 2]", "[1/2 0 0 1]", "[1 0 0 1/2]", "[1.0 0 0 2]", "[1 0 0 2.0]", "[1 0 0 .5]",
		"[1e3 0 0 2]", "[0x1 0 0 2]", "[1_0 0 0 1]", "[1 0 0 2mm]", "[a b c d]", "[x 0 0 2]", "[1 0 0 inf]", "[1 0 0 0b1]",
		"[2 0 0 4]", "[0 0 2 -4]", "[0 0 2 0]", "[-2 0 0 0]", "[-2 -2 -2 -2]", "[0 3 0 -6]", "[6 9 12 15]", "[6 -10 0 4]", "[256 512 0 768]", "[0 0 " + strings.Repeat("9", 50) + " 3]",
		"[0 0 0 0]", "[0 0 0 1]", "[0 0 0 -1]", "[0 0 0 7]", "[-0 -0 -0 1]",
		"[\u0661 0 0 2]", "[\uff11 0 0 2]", "[\u22121 0 0 2]", "[\u00bd 0 0 2]", "\uff3b1 0 0 2\uff3d", "[\xff 0 0 2]", "\xff[1 0 0 2]", "[1 0 0 2]\xff",
		strings.Repeat("[", 1000), strings.Repeat(" ", 1000), "[" + strings.Repeat("1 ", 1000) + "1]", "[" + strings.Repeat("9", 1000) + " 0 0 1", "[0" + strings.Repeat("9", 1000) + " 0 0 1]",
	} {
		if got, ok := plane.Parse(s); ok || got != (api.Plane{}) {
			t.Errorf("Parse(%q) = %#v, %v, want false", s, got, ok)
		}
	}
}

// TestParseNearTexts checks Parse with all texts that differ in one byte from some texts of planes.
func TestParseNearTexts(t *testing.T) {
	check := func(s string) {
		got, ok := plane.Parse(s)
		if want, legal := parseSimply(s); ok != legal || got != want {
			t.Errorf("Parse(%q) = %#v, %v, want %#v, %v", s, got, ok, want, legal)
		}
	}
	for _, s := range []string{"[1 0 0 2]", "[0 0 -1 0]", "[10 -2 30 -45]", "[-4 6 8 9]", "[0 0 0 0]", "[2 0 0 4]"} {
		for i := range len(s) {
			check(s[:i])
			check(s[i:])
			check(s[:i] + s[i+1:])
			for b := range 256 {
				c := string([]byte{byte(b)})
				check(s[:i] + c + s[i:])
				check(s[:i] + c + s[i+1:])
				check(s + c)
			}
		}
	}
}

// P5.5

func TestThroughInOtherOrders(t *testing.T) {
	triples(func(a, b, c api.Point) {
		p, ok := plane.Through(a, b, c)
		for _, cyclic := range [][3]api.Point{{b, c, a}, {c, a, b}} {
			if got, valid := plane.Through(cyclic[0], cyclic[1], cyclic[2]); got != p || valid != ok {
				t.Fatalf("Through(%#v) = %#v, %v, want %#v, %v", cyclic, got, valid, p, ok)
			}
		}
		for _, reversed := range [][3]api.Point{{c, b, a}, {b, a, c}, {a, c, b}} {
			if got, valid := plane.Through(reversed[0], reversed[1], reversed[2]); valid != ok || ok && got != plane.Flip(p) {
				t.Fatalf("Through(%#v) = %#v, %v, want the flip of %#v, %v", reversed, got, valid, p, ok)
			}
		}
		if ok && (plane.Side(p, a) != 0 || plane.Side(p, b) != 0 || plane.Side(p, c) != 0) {
			t.Fatalf("Through(%#v, %#v, %#v) = %#v does not contain the points", a, b, c, p)
		}
	})
}

func TestProjectedPoints(t *testing.T) {
	withPoints(func(p api.Plane, x api.Point) {
		projected := plane.Project(p, x)
		if plane.Side(p, projected) != 0 || plane.Project(p, projected) != projected {
			t.Fatalf("Project(%#v, %#v) = %#v is not on the plane", p, x, projected)
		}
		if (projected == x) != (plane.Side(p, x) == 0) || plane.Project(plane.Flip(p), x) != projected {
			t.Fatalf("Project(%#v, %#v) = %#v", p, x, projected)
		}
		before, after := point.Coords(x), point.Coords(projected)
		for axis := range 3 {
			if main, _ := plane.Axis(p); axis != main && before[axis] != after[axis] {
				t.Fatalf("Project(%#v, %#v) = %#v changes the coordinate %d", p, x, projected, axis)
			}
		}
	})
}

func TestOffsetAndBack(t *testing.T) {
	list := points()
	n := 0
	withOffsets(func(p api.Plane, h api.Rational) {
		n++
		moved := plane.Offset(p, h)
		if got := plane.Offset(moved, fromBigRat(new(big.Rat).Neg(bigRat(h)))); got != p {
			t.Fatalf("%#v offset by %#v and back is %#v", p, h, got)
		}
		e := toEquation(p)
		x := project(e, toVector(list[n%len(list)]))
		if y := fromVector(combine(x, alongAxis(e, bigRat(h)), big.NewRat(1, 1))); plane.Side(moved, y) != 0 {
			t.Fatalf("%#v is not on %#v offset by %#v", y, p, h)
		}
		if plane.Side(moved, fromVector(x)) != -bigRat(h).Sign() {
			t.Fatalf("%#v offset by %#v lies on the wrong side of %#v", p, h, x)
		}
	})
}

// TestOtherArguments checks that planes and points that are invalid or not in canonical form cause no panic.
func TestOtherArguments(t *testing.T) {
	numbers := []api.Int{{}, {Neg: true}, {Neg: true, Mag: "\x00\x00"}, {Mag: "\x01"}, {Neg: true, Mag: "\x06\x00"}, {Mag: strings.Repeat("\xff", 40)}}
	var odd []api.Plane
	var spots []api.Point
	for _, a := range numbers {
		for _, b := range numbers {
			for _, c := range numbers {
				odd = append(odd, api.Plane{A: a, B: b, C: c, D: a}, api.Plane{A: c, C: b, D: c})
				spots = append(spots, api.Point{X: a, Y: b, Z: c, W: b}, api.Point{X: b, Y: c, Z: a})
			}
		}
	}
	for i, p := range odd {
		for j := range 20 {
			x, y, z := spots[(i+j)%len(spots)], spots[(3*i+j)%len(spots)], spots[(7*i+5*j)%len(spots)]
			h := api.Rational{Neg: p.A.Neg, Num: p.B.Mag, Den: x.W.Mag}
			plane.Through(x, y, z)
			plane.Flip(p)
			plane.Side(p, x)
			plane.Cmp(p, odd[j])
			plane.Axis(p)
			plane.Project(p, x)
			plane.Offset(p, h)
			plane.Parse(plane.Format(p))
		}
	}
}

func FuzzPlane(f *testing.F) {
	f.Add(false, "\x02", true, "\x00", false, "\x04", true, "\x06\x00", "[1 0 0 2]")
	f.Add(true, "\x06\x00", true, "\xff\xff", false, "", false, "\x00\x00", "[-1 -2 7 3]")
	f.Add(true, "", false, "\x00", true, "", true, "\x1e", "[2 4 0 6]")
	f.Fuzz(func(t *testing.T, aNeg bool, a string, bNeg bool, b string, cNeg bool, c string, dNeg bool, d string, s string) {
		given := api.Plane{A: api.Int{Neg: aNeg, Mag: a}, B: api.Int{Neg: bNeg, Mag: b}, C: api.Int{Neg: cNeg, Mag: c}, D: api.Int{Neg: dNeg, Mag: d}}
		p, ok := plane.Normalize(given)
		if want, valid := canonical(toEquation(given)); p != want || ok != valid {
			t.Fatalf("Normalize(%#v) = %#v, %v, want %#v, %v", given, p, ok, want, valid)
		}
		n, h := api.Vec3{{Neg: aNeg, Num: a, Den: b}, {Neg: bNeg, Num: b, Den: c}, {Neg: cNeg, Num: c, Den: d}}, api.Rational{Neg: dNeg, Num: d, Den: a}
		q, ok := plane.FromCoefficients(n, h)
		if want, valid := canonical(equation{bigRat(n[0]), bigRat(n[1]), bigRat(n[2]), bigRat(h)}); q != want || ok != valid {
			t.Fatalf("FromCoefficients(%#v, %#v) = %#v, %v, want %#v, %v", n, h, q, ok, want, valid)
		}
		x := fromVector(toVector(api.Point{X: given.D, Y: given.A, Z: given.B, W: given.C}))
		y, z := fromVector(vector{bigRat(n[0]), bigRat(n[1]), bigRat(n[2])}), fromVector(vector{bigRat(n[2]), bigRat(h), bigRat(n[1])})
		r, ok := plane.Through(x, y, z)
		if want, valid := canonical(through(toVector(x), toVector(y), toVector(z))); r != want || ok != valid {
			t.Fatalf("Through(%#v, %#v, %#v) = %#v, %v, want %#v, %v", x, y, z, r, ok, want, valid)
		}
		for _, one := range []api.Plane{p, q, r} {
			if one != (api.Plane{}) {
				checkPlane(t, one, x, fromBigRat(bigRat(h)))
			}
		}
		parsed, ok := plane.Parse(s)
		if want, legal := parseSimply(s); ok != legal || parsed != want {
			t.Errorf("Parse(%q) = %#v, %v", s, parsed, ok)
		}
	})
}

// checkPlane compares the functions of a plane in canonical form with math/big.
func checkPlane(t *testing.T, p api.Plane, x api.Point, h api.Rational) {
	t.Helper()
	e := toEquation(p)
	if got, want := plane.Side(p, x), excess(e, toVector(x)).Sign(); got != want {
		t.Errorf("Side(%#v, %#v) = %d, want %d", p, x, got, want)
	}
	gotAxis, gotUpwards := plane.Axis(p)
	if axis, upwards := axisOf(e); gotAxis != axis || gotUpwards != upwards {
		t.Errorf("Axis(%#v) = %d, %v", p, gotAxis, gotUpwards)
	}
	if got, want := plane.Project(p, x), fromVector(project(e, toVector(x))); got != want {
		t.Errorf("Project(%#v, %#v) = %#v, want %#v", p, x, got, want)
	}
	moved := plane.Offset(p, h)
	if want, _ := canonical(offset(e, bigRat(h))); moved != want {
		t.Errorf("Offset(%#v, %#v) = %#v, want %#v", p, h, moved, want)
	}
	if got, want := plane.Cmp(p, moved), compare(e, toEquation(moved)); got != want {
		t.Errorf("Cmp(%#v, %#v) = %d, want %d", p, moved, got, want)
	}
	if got, ok := plane.Parse(plane.Format(p)); !ok || got != p {
		t.Errorf("Parse(Format(%#v)) = %#v, %v", p, got, ok)
	}
}
