package point_test

import (
	"math/big"
	"math/rand"
	"regexp"
	"slices"
	"strings"
	"testing"

	"voussoir/api"
	"voussoir/point"
	"voussoir/rational"
)

// coords are three Cartesian coordinates, computed without the layers under test.
type coords [3]*big.Rat

// natural returns the number that a magnitude represents.
func natural(magnitude string) *big.Int {
	bytes := []byte(magnitude)
	slices.Reverse(bytes)
	return new(big.Int).SetBytes(bytes)
}

// magnitude returns the magnitude of n without trailing zero bytes.
func magnitude(n *big.Int) string {
	bytes := n.Bytes()
	slices.Reverse(bytes)
	return string(bytes)
}

// bigInt returns the number that x represents, in whatever form x is.
func bigInt(x api.Int) *big.Int {
	n := natural(x.Mag)
	if x.Neg {
		n.Neg(n)
	}
	return n
}

// fromBigInt returns n in canonical form.
func fromBigInt(n *big.Int) api.Int {
	return api.Int{Neg: n.Sign() < 0, Mag: magnitude(n)}
}

// orOne returns n, or 1 if n is zero.
func orOne(n *big.Int) *big.Int {
	if n.Sign() == 0 {
		return big.NewInt(1)
	}
	return n
}

// bigRat returns the number that x represents, in whatever representation x is.
func bigRat(x api.Rational) *big.Rat {
	return new(big.Rat).SetFrac(bigInt(api.Int{Neg: x.Neg, Mag: x.Num}), orOne(natural(x.Den)))
}

// fromBigRat returns n in canonical form.
func fromBigRat(n *big.Rat) api.Rational {
	x := api.Rational{Neg: n.Sign() < 0, Num: magnitude(n.Num())}
	if !n.IsInt() {
		x.Den = magnitude(n.Denom())
	}
	return x
}

// toBig returns the coordinates of p, in whatever form p is.
func toBig(p api.Point) coords {
	w := orOne(bigInt(p.W))
	return coords{new(big.Rat).SetFrac(bigInt(p.X), w), new(big.Rat).SetFrac(bigInt(p.Y), w), new(big.Rat).SetFrac(bigInt(p.Z), w)}
}

// fromBig returns the point with the coordinates c in canonical form.
func fromBig(c coords) api.Point {
	w := big.NewInt(1)
	for _, x := range c {
		// The least common multiple of the denominators leaves no common divisor.
		divisor := new(big.Int).GCD(nil, nil, w, x.Denom())
		w.Mul(w, new(big.Int).Quo(x.Denom(), divisor))
	}
	var numerators [3]api.Int
	for i, x := range c {
		numerators[i] = fromBigInt(new(big.Rat).Mul(x, new(big.Rat).SetInt(w)).Num())
	}
	return api.Point{X: numerators[0], Y: numerators[1], Z: numerators[2], W: fromBigInt(w)}
}

// vecToBig returns the components of v, in whatever representation they are.
func vecToBig(v api.Vec3) coords {
	return coords{bigRat(v[0]), bigRat(v[1]), bigRat(v[2])}
}

// vecFromBig returns the vector with the components c in canonical form.
func vecFromBig(c coords) api.Vec3 {
	return api.Vec3{fromBigRat(c[0]), fromBigRat(c[1]), fromBigRat(c[2])}
}

// compare compares coordinates lexicographically.
func compare(a, b coords) int {
	return slices.CompareFunc(a[:], b[:], (*big.Rat).Cmp)
}

// lerp returns a + t * (b - a).
func lerp(a, b coords, t *big.Rat) coords {
	var sum coords
	for i := range sum {
		step := new(big.Rat).Sub(b[i], a[i])
		sum[i] = step.Add(a[i], step.Mul(step, t))
	}
	return sum
}

// plus returns a + b.
func plus(a, b coords) coords {
	var sum coords
	for i := range sum {
		sum[i] = new(big.Rat).Add(a[i], b[i])
	}
	return sum
}

// minus returns -v, in some representation.
func minus(v api.Vec3) api.Vec3 {
	for i := range v {
		v[i].Neg = !v[i].Neg
	}
	return v
}

// number returns the rational number with the text s.
func number(s string) *big.Rat {
	n, ok := new(big.Rat).SetString(s)
	if !ok {
		panic(s)
	}
	return n
}

// at returns the coordinates with the texts x, y and z.
func at(x, y, z string) coords {
	return coords{number(x), number(y), number(z)}
}

// pt returns the point with the given homogeneous coordinates, which are not reduced.
func pt(x, y, z, w int64) api.Point {
	return api.Point{X: fromBigInt(big.NewInt(x)), Y: fromBigInt(big.NewInt(y)), Z: fromBigInt(big.NewInt(z)), W: fromBigInt(big.NewInt(w))}
}

// scaled returns the point p with all four integers multiplied by factor.
func scaled(p api.Point, factor int64) api.Point {
	for _, x := range []*api.Int{&p.X, &p.Y, &p.Z, &p.W} {
		*x = fromBigInt(new(big.Int).Mul(bigInt(*x), big.NewInt(factor)))
	}
	return p
}

// loosened returns the point p with the given number of zero bytes after all magnitudes, and all zeros negative.
func loosened(p api.Point, zeros int) api.Point {
	for _, x := range []*api.Int{&p.X, &p.Y, &p.Z, &p.W} {
		*x = api.Int{Neg: x.Neg || x.Mag == "", Mag: x.Mag + strings.Repeat("\x00", zeros)}
	}
	return p
}

// forms returns forms of p, which is in canonical form: with common divisors, with a W that is negative or zero, and
// with integers that are not in canonical form.
func forms(p api.Point) []api.Point {
	list := []api.Point{p}
	for _, factor := range []int64{-1, 2, -3, 256, -65536, 1 << 62} {
		list = append(list, scaled(p, factor))
	}
	if p.W.Mag == "\x01" {
		list = append(list, api.Point{X: p.X, Y: p.Y, Z: p.Z})
	}
	for i, q := range slices.Clone(list) {
		list = append(list, loosened(q, i%4))
	}
	return list
}

// rationalForms returns representations of x, which is in canonical form.
func rationalForms(x api.Rational) []api.Rational {
	list := []api.Rational{x, {Neg: x.Neg, Num: x.Num + "\x00", Den: x.Den + "\x00\x00"}}
	for _, factor := range []int64{1, 6, 256} {
		f := big.NewInt(factor)
		list = append(list, api.Rational{Neg: x.Neg || x.Num == "", Num: magnitude(new(big.Int).Mul(f, natural(x.Num))), Den: magnitude(new(big.Int).Mul(f, orOne(natural(x.Den))))})
	}
	return list
}

// vecForms returns representations of v, which has components in canonical form.
func vecForms(v api.Vec3) []api.Vec3 {
	x, y, z := rationalForms(v[0]), rationalForms(v[1]), rationalForms(v[2])
	var list []api.Vec3
	for i := range x {
		list = append(list, api.Vec3{x[i], y[i], z[i]}, api.Vec3{x[i], y[(i+1)%len(y)], z[(i+3)%len(z)]})
	}
	return list
}

// edges returns coordinates of all signs, whole ones and fractions with equal, different and large denominators.
func edges() []coords {
	nines, power := strings.Repeat("9", 50), "1"+strings.Repeat("0", 50)
	list := []coords{
		at("0", "0", "0"), at("1", "2", "3"), at("-1", "-2", "-3"), at("1", "0", "0"), at("0", "1", "0"), at("0", "0", "1"), at("0", "0", "-1/7"),
		at("1/2", "1/3", "0"), at("-3", "1/4", "5/6"), at("1/2", "3/2", "-5/2"), at("1/6", "1/10", "1/15"), at("2/3", "-4/3", "1/9"), at("1", "1", "2/3"),
		at("255/256", "-256", "1/255"), at("1/65536", "65535", "-1/65537"), at("1000", "-1000", "999999/1000"),
		at("18446744073709551616", "1/18446744073709551615", "-9223372036854775808/3"), at(nines+"/"+power, "-"+power+"/7", "-1/"+nines),
	}
	for _, x := range []string{"-1/2", "0", "1/3"} {
		for _, y := range []string{"-1/2", "0", "1/3"} {
			list = append(list, at(x, y, "1/3"), at(x, y, "-1/2"))
		}
	}
	return list
}

// randomInt returns an integer of up to size bytes, in any form. Zeros and small bytes are frequent.
func randomInt(r *rand.Rand, size int) api.Int {
	bytes := make([]byte, r.Intn(size+1))
	for i := range bytes {
		bytes[i] = []byte{0, 1, 2, 6, 0xff, byte(r.Intn(256)), byte(r.Intn(256))}[r.Intn(7)]
	}
	return api.Int{Neg: r.Intn(2) == 0, Mag: string(bytes)}
}

// random returns a point with magnitudes of up to size bytes, in any form.
func random(r *rand.Rand, size int) api.Point {
	return api.Point{X: randomInt(r, size), Y: randomInt(r, size), Z: randomInt(r, size), W: randomInt(r, size)}
}

// randomRational returns a number with magnitudes of up to size bytes, in any representation.
func randomRational(r *rand.Rand, size int) api.Rational {
	n := randomInt(r, size)
	return api.Rational{Neg: n.Neg, Num: n.Mag, Den: randomInt(r, size).Mag}
}

// randomVec returns a vector with magnitudes of up to size bytes, in any representation.
func randomVec(r *rand.Rand, size int) api.Vec3 {
	return api.Vec3{randomRational(r, size), randomRational(r, size), randomRational(r, size)}
}

// singles calls check with the edges in many forms and with random points, up to many bytes.
func singles(check func(p api.Point)) {
	for _, c := range edges() {
		for _, p := range forms(fromBig(c)) {
			check(p)
		}
	}
	r := rand.New(rand.NewSource(1))
	for range 1000 {
		check(random(r, 2))
		check(random(r, 30))
	}
	check(random(r, 600))
}

// vectors calls check with the edges in many representations and with random vectors, up to many bytes.
func vectors(check func(v api.Vec3)) {
	for _, c := range edges() {
		for _, v := range vecForms(vecFromBig(c)) {
			check(v)
		}
	}
	r := rand.New(rand.NewSource(2))
	for range 1000 {
		check(randomVec(r, 2))
		check(randomVec(r, 30))
	}
	check(randomVec(r, 300))
}

// pairs calls check with pairs of edges in several forms and of random points.
func pairs(check func(a, b api.Point)) {
	for _, x := range edges() {
		for _, y := range edges() {
			a, b := forms(fromBig(x)), forms(fromBig(y))
			for i := range max(len(a), len(b)) {
				check(a[i%len(a)], b[(i+1)%len(b)])
			}
		}
	}
	r := rand.New(rand.NewSource(3))
	for range 1000 {
		check(random(r, 1), random(r, 1))
		check(random(r, 20), random(r, 20))
	}
}

// steps returns values of t for Lerp: 0, 1, between them and outside.
func steps() []api.Rational {
	var list []api.Rational
	for _, s := range []string{"0", "1", "1/2", "1/3", "99/100", "-1", "-5/7", "3/2", "2", "1000", "-18446744073709551616", "1/18446744073709551616"} {
		list = append(list, rationalForms(fromBigRat(number(s)))...)
	}
	return list
}

// blends calls check with pairs of edges and of random points, and with values of t, all in many forms.
func blends(check func(a, b api.Point, t api.Rational)) {
	values := steps()
	n := 0
	pairs(func(a, b api.Point) {
		n++
		check(a, b, values[n%len(values)])
	})
	r := rand.New(rand.NewSource(4))
	for _, x := range edges() {
		for _, y := range edges() {
			check(fromBig(x), fromBig(y), randomRational(r, 4))
		}
	}
	for _, t := range values {
		for range 10 {
			check(random(r, 3), random(r, 3), t)
		}
	}
}

// P4.1

func TestNormalize(t *testing.T) {
	one, minusOne := api.Int{Mag: "\x01"}, api.Int{Neg: true, Mag: "\x01"}
	for _, c := range [][2]api.Point{
		{{}, pt(0, 0, 0, 1)}, {pt(0, 0, 0, 1), pt(0, 0, 0, 1)}, {pt(0, 0, 0, -9), pt(0, 0, 0, 1)}, {pt(1, 2, 3, 1), pt(1, 2, 3, 1)},
		{pt(2, 4, 6, 2), pt(1, 2, 3, 1)}, {pt(2, 4, 6, 1), pt(2, 4, 6, 1)}, {pt(1, 2, 3, 2), pt(1, 2, 3, 2)}, {pt(1, 2, 3, -2), pt(-1, -2, -3, 2)},
		{pt(-2, -4, 6, -2), pt(1, 2, -3, 1)}, {pt(6, 9, 0, 12), pt(2, 3, 0, 4)}, {pt(6, 10, 15, 30), pt(6, 10, 15, 30)}, {pt(0, 0, 8, 12), pt(0, 0, 2, 3)},
		{pt(5, 6, 7, 0), pt(5, 6, 7, 1)}, {pt(4, -6, 8, 0), pt(4, -6, 8, 1)}, {pt(256, 512, 768, -256), pt(-1, -2, -3, 1)},
		{{X: one, Y: minusOne, W: api.Int{Neg: true}}, pt(1, -1, 0, 1)}, {{X: one, Y: minusOne, W: api.Int{Neg: true, Mag: "\x00"}}, pt(1, -1, 0, 1)},
		{{X: one, Y: minusOne, W: api.Int{Mag: strings.Repeat("\x00", 40)}}, pt(1, -1, 0, 1)}, {{X: api.Int{Neg: true}, W: minusOne}, pt(0, 0, 0, 1)},
		{{X: api.Int{Neg: true, Mag: "\x05\x00"}, Y: api.Int{Neg: true, Mag: "\x00\x00"}, Z: api.Int{Mag: "\x0a\x00"}, W: api.Int{Neg: true, Mag: "\x0f\x00\x00"}}, pt(1, 0, -2, 3)},
	} {
		if got := point.Normalize(c[0]); got != c[1] {
			t.Errorf("Normalize(%#v) = %#v, want %#v", c[0], got, c[1])
		}
	}
	singles(func(p api.Point) {
		if got, want := point.Normalize(p), fromBig(toBig(p)); got != want {
			t.Fatalf("Normalize(%#v) = %#v, want %#v", p, got, want)
		}
	})
}

func TestFromCoords(t *testing.T) {
	for _, c := range []struct {
		v    coords
		want api.Point
	}{
		{at("0", "0", "0"), pt(0, 0, 0, 1)}, {at("1/2", "1/3", "0"), pt(3, 2, 0, 6)}, {at("7", "-8", "9"), pt(7, -8, 9, 1)}, {at("-3", "1/4", "5/6"), pt(-36, 3, 10, 12)},
		{at("1/2", "1/2", "1/2"), pt(1, 1, 1, 2)}, {at("1/6", "1/10", "1/15"), pt(5, 3, 2, 30)}, {at("0", "0", "-2/7"), pt(0, 0, -2, 7)}, {at("4", "6/5", "8"), pt(20, 6, 40, 5)},
	} {
		for _, v := range vecForms(vecFromBig(c.v)) {
			if got := point.FromCoords(v); got != c.want {
				t.Errorf("FromCoords(%#v) = %#v, want %#v", v, got, c.want)
			}
		}
	}
	if got := point.FromCoords(api.Vec3{}); got != pt(0, 0, 0, 1) {
		t.Errorf("FromCoords(0) = %#v", got)
	}
	vectors(func(v api.Vec3) {
		if got, want := point.FromCoords(v), fromBig(vecToBig(v)); got != want {
			t.Fatalf("FromCoords(%#v) = %#v, want %#v", v, got, want)
		}
	})
}

func TestCoords(t *testing.T) {
	for _, c := range []struct {
		p    api.Point
		want coords
	}{
		{api.Point{}, at("0", "0", "0")}, {pt(3, 2, 0, 6), at("1/2", "1/3", "0")}, {pt(3, 2, 0, -6), at("-1/2", "-1/3", "0")}, {pt(-4, 6, 7, 0), at("-4", "6", "7")},
		{pt(6, -10, 15, 30), at("1/5", "-1/3", "1/2")}, {pt(8, 12, 0, -4), at("-2", "-3", "0")},
	} {
		if got, want := point.Coords(c.p), vecFromBig(c.want); got != want {
			t.Errorf("Coords(%#v) = %#v, want %#v", c.p, got, want)
		}
	}
	singles(func(p api.Point) {
		if got, want := point.Coords(p), vecFromBig(toBig(p)); got != want {
			t.Fatalf("Coords(%#v) = %#v, want %#v", p, got, want)
		}
	})
}

// P4.2

func TestCmp(t *testing.T) {
	for _, c := range []struct {
		a, b api.Point
		want int
	}{
		{pt(1, 2, 3, 1), pt(1, 2, 3, 1), 0}, {pt(1, 2, 3, 1), pt(2, 4, 6, 2), 0}, {pt(1, 2, 3, 1), pt(-1, -2, -3, -1), 0}, {pt(1, 2, 3, 0), pt(-3, -6, -9, -3), 0},
		{pt(0, 0, 0, 0), pt(0, 0, 0, -5), 0}, {pt(1, 9, 9, 1), pt(2, 0, 0, 1), -1}, {pt(1, 9, 9, 1), pt(1, 8, 10, 1), 1}, {pt(1, 2, 9, 1), pt(1, 3, 0, 1), -1},
		{pt(1, 2, 3, 1), pt(1, 2, 4, 1), -1}, {pt(1, 2, 3, 1), pt(1, 2, -3, 1), 1}, {pt(1, 2, 3, 2), pt(1, 2, 3, 1), -1}, {pt(1, 2, 3, 2), pt(1, 2, 3, 3), 1},
		{pt(1, 1, 1, 1), pt(2, 2, 3, 2), -1}, {pt(-1, 0, 0, 1), pt(0, 0, 0, 1), -1}, {pt(1, 0, 0, -1), pt(0, 0, 0, 1), -1}, {pt(1, 0, 0, -2), pt(1, 0, 0, -1), 1},
		{pt(2, 1, 0, 4), pt(1, 1, 0, 2), -1}, {pt(2, 0, 3, 4), pt(1, 0, 1, 2), 1}, {pt(1, 0, 0, 0), pt(3, 0, 0, 2), -1},
	} {
		if got := point.Cmp(c.a, c.b); got != c.want {
			t.Errorf("Cmp(%#v, %#v) = %d, want %d", c.a, c.b, got, c.want)
		}
	}
	pairs(func(a, b api.Point) {
		if got, want := point.Cmp(a, b), compare(toBig(a), toBig(b)); got != want {
			t.Fatalf("Cmp(%#v, %#v) = %d, want %d", a, b, got, want)
		}
	})
}

func TestCmpOfEqualPoints(t *testing.T) {
	for _, c := range edges() {
		list := forms(fromBig(c))
		for _, a := range list {
			for _, b := range list {
				if got := point.Cmp(a, b); got != 0 {
					t.Errorf("Cmp(%#v, %#v) = %d, want 0", a, b, got)
				}
			}
		}
	}
}

// P4.3

func TestAdd(t *testing.T) {
	for _, c := range []struct {
		p    api.Point
		v    coords
		want api.Point
	}{
		{pt(1, 1, 1, 2), at("1/2", "-1/2", "1/3"), pt(6, 0, 5, 6)}, {api.Point{}, at("1", "2", "3"), pt(1, 2, 3, 1)}, {pt(1, 2, 3, 1), at("0", "0", "0"), pt(1, 2, 3, 1)},
		{pt(1, 2, 3, -2), at("1/2", "1", "3/2"), pt(0, 0, 0, 1)}, {pt(4, 5, 6, 0), at("1/7", "0", "0"), pt(29, 35, 42, 7)}, {pt(1, 2, 3, 6), at("1/3", "2/3", "-1/2"), pt(1, 2, 0, 2)},
	} {
		for _, v := range vecForms(vecFromBig(c.v)) {
			if got := point.Add(c.p, v); got != c.want {
				t.Errorf("Add(%#v, %#v) = %#v, want %#v", c.p, v, got, c.want)
			}
		}
	}
	r := rand.New(rand.NewSource(5))
	singles(func(p api.Point) {
		for _, v := range []api.Vec3{randomVec(r, 2), randomVec(r, 20)} {
			if got, want := point.Add(p, v), fromBig(plus(toBig(p), vecToBig(v))); got != want {
				t.Fatalf("Add(%#v, %#v) = %#v, want %#v", p, v, got, want)
			}
		}
	})
	vectors(func(v api.Vec3) {
		p := random(r, 3)
		if got, want := point.Add(p, v), fromBig(plus(toBig(p), vecToBig(v))); got != want {
			t.Fatalf("Add(%#v, %#v) = %#v, want %#v", p, v, got, want)
		}
	})
}

func TestLerp(t *testing.T) {
	for _, c := range []struct {
		a, b api.Point
		t    string
		want api.Point
	}{
		{pt(0, 0, 0, 1), pt(1, 2, 3, 1), "1/2", pt(1, 2, 3, 2)}, {pt(0, 0, 0, 0), pt(2, 4, -6, -2), "1/2", pt(-1, -2, 3, 2)}, {pt(1, 2, 3, 1), pt(4, 5, 6, 1), "0", pt(1, 2, 3, 1)},
		{pt(1, 2, 3, 1), pt(4, 5, 6, 1), "1", pt(4, 5, 6, 1)}, {pt(1, 2, 3, 1), pt(4, 5, 6, 1), "-1", pt(-2, -1, 0, 1)}, {pt(1, 2, 3, 1), pt(4, 5, 6, 1), "5/3", pt(6, 7, 8, 1)},
		{pt(1, 0, 0, 2), pt(0, 1, 0, 3), "1/4", pt(9, 2, 0, 24)}, {pt(1, 1, 1, 1), pt(2, 2, 2, 2), "7/9", pt(1, 1, 1, 1)}, {pt(1, 2, 3, -2), pt(1, 2, 3, 2), "1/2", pt(0, 0, 0, 1)},
	} {
		for _, step := range rationalForms(fromBigRat(number(c.t))) {
			if got := point.Lerp(c.a, c.b, step); got != c.want {
				t.Errorf("Lerp(%#v, %#v, %#v) = %#v, want %#v", c.a, c.b, step, got, c.want)
			}
		}
	}
	blends(func(a, b api.Point, step api.Rational) {
		if got, want := point.Lerp(a, b, step), fromBig(lerp(toBig(a), toBig(b), bigRat(step))); got != want {
			t.Fatalf("Lerp(%#v, %#v, %#v) = %#v, want %#v", a, b, step, got, want)
		}
	})
}

// P4.4

func TestFormat(t *testing.T) {
	for s, p := range map[string]api.Point{
		"(0, 0, 0)": {}, "(1, 2, 3)": pt(1, 2, 3, 1), "(-1, 0, 3)": pt(-1, 0, 3, 1), "(1/2, 1/3, 0)": pt(3, 2, 0, 6), "(1/2, 1, 3/2)": pt(1, 2, 3, 2),
		"(-36, 3/8, 10)": pt(-288, 3, 80, 8), "(-1/256, 256, -1)": pt(-1, 65536, -256, 256), "(5, 6, 7)": pt(5, 6, 7, 0),
	} {
		for _, q := range append(forms(fromBig(toBig(p))), p) {
			if got := point.Format(q); got != s {
				t.Errorf("Format(%#v) = %q, want %q", q, got, s)
			}
		}
	}
	singles(func(p api.Point) {
		c := toBig(p)
		if got, want := point.Format(p), "("+c[0].RatString()+", "+c[1].RatString()+", "+c[2].RatString()+")"; got != want {
			t.Fatalf("Format(%#v) = %q, want %q", p, got, want)
		}
	})
}

// pointText matches the texts that Format returns, and others whose coordinates have leading zeros, are not in lowest
// terms or are -0.
var pointText = regexp.MustCompile(`\A\((-?[0-9]+(?:/[0-9]+)?), (-?[0-9]+(?:/[0-9]+)?), (-?[0-9]+(?:/[0-9]+)?)\)\z`)

// parseSimply returns what Parse must return, without the layers under test.
func parseSimply(s string) (api.Point, bool) {
	texts := pointText.FindStringSubmatch(s)
	if texts == nil {
		return api.Point{}, false
	}
	var c coords
	for i, text := range texts[1:] {
		n, ok := new(big.Rat).SetString(text)
		if !ok || n.RatString() != text {
			return api.Point{}, false
		}
		c[i] = n
	}
	return fromBig(c), true
}

func TestParse(t *testing.T) {
	for s, want := range map[string]api.Point{
		"(0, 0, 0)": pt(0, 0, 0, 1), "(1, 2, 3)": pt(1, 2, 3, 1), "(-1, 0, 10)": pt(-1, 0, 10, 1), "(1/2, 1/3, 0)": pt(3, 2, 0, 6), "(-1/2, -1/2, -3/2)": pt(-1, -1, -3, 2),
		"(-3, 1/4, 5/6)": pt(-36, 3, 10, 12), "(4/2147483647, 0, 1)": pt(4, 0, 2147483647, 2147483647),
	} {
		if got, ok := point.Parse(s); !ok || got != want {
			t.Errorf("Parse(%q) = %#v, %v, want %#v", s, got, ok, want)
		}
	}
	singles(func(p api.Point) {
		s := point.Format(p)
		if got, ok := point.Parse(s); !ok || got != fromBig(toBig(p)) {
			t.Fatalf("Parse(%q) = %#v, %v", s, got, ok)
		}
	})
}

func TestParseRefuses(t *testing.T) {
	for _, s := range []string{
		"", "(", ")", "()", ")(", "(1)", "(1, 2)", "(1, 2, 3, 4)", "(, , )", "(,,)", "(, )", ", , ", "(1, 2, )", "(, 2, 3)", "(1, , 3)", "(1, 2, 3, )", "(, 1, 2, 3)",
		"1, 2, 3", "1, 2, 3)", "(1, 2, 3", "((1, 2, 3)", "(1, 2, 3))", "((1, 2, 3))", "[1, 2, 3]", "{1, 2, 3}", "<1, 2, 3>", ")1, 2, 3(", "(1, 2, 3)(1, 2, 3)", "(1, 2, 3\x00)",
		"(1,2,3)", "(1,2, 3)", "(1, 2,3)", "(1 2 3)", "(1 2, 3)", "(1, 2 3)", "(1; 2; 3)", "(1,, 2, 3)", "(1,  2, 3)", "(1 , 2, 3)", "(1 ,2, 3)", "( 1, 2, 3)", "(1, 2, 3 )",
		" (1, 2, 3)", "(1, 2, 3) ", "(1, 2, 3)\n", "\n(1, 2, 3)", "(1,\t2, 3)", "(1,\n2, 3)", "(1, 2, 3),", ",(1, 2, 3)", "(1,\u00a02, 3)", "(1, 2, 3)\x00",
		"(01, 2, 3)", "(1, 02, 3)", "(1, 2, 03)", "(00, 0, 0)", "(0, 0, 00)", "(-0, 0, 0)", "(0, -0, 0)", "(0, 0, -0)", "(-01, 0, 0)", "(+1, 2, 3)", "(1, +2, 3)", "(--1, 2, 3)",
		"(2/4, 0, 0)", "(0, 2/4, 0)", "(0, 0, 2/4)", "(4/2, 0, 0)", "(1/1, 0, 0)", "(0/1, 0, 0)", "(0/3, 0, 0)", "(01/2, 0, 0)", "(1/02, 0, 0)", "(1/-2, 0, 0)", "(-1/-2, 0, 0)",
		"(1/0, 0, 0)", "(0, 0/0, 0)", "(0, 0, 1/00)", "(1/, 0, 0)", "(/2, 0, 0)", "(1/2/3, 0, 0)", "(1//2, 0, 0)", "(-, 0, 0)", "(0, 0, -)", "(1-, 0, 0)", "(-1/2-, 0, 0)",
		"(1.5, 0, 0)", "(0, 1.0, 0)", "(0, 0, .5)", "(5., 0, 0)", "(1e3, 0, 0)", "(0x1, 0, 0)", "(1_0, 0, 0)", "(x, y, z)", "(1mm, 0, 0)", "(a, 0, 0)", "(inf, 0, 0)",
		"(\u0661, 0, 0)", "(\uff11, 2, 3)", "(\u22121, 0, 0)", "(\u00bd, 0, 0)", "\uff081, 2, 3\uff09", "(1\uff0c 2, 3)", "(\xff, 0, 0)", "\xff(1, 2, 3)", "(1, 2, 3)\xff",
		strings.Repeat("(", 1000), strings.Repeat(", ", 1000), "(" + strings.Repeat("1, ", 1000) + "1)", "(" + strings.Repeat("9", 1000) + ", 0, 0", "(0" + strings.Repeat("9", 1000) + ", 0, 0)",
	} {
		if got, ok := point.Parse(s); ok || got != (api.Point{}) {
			t.Errorf("Parse(%q) = %#v, %v, want false", s, got, ok)
		}
	}
}

// TestParseNearTexts checks Parse with all texts that differ in one byte from some texts of points.
func TestParseNearTexts(t *testing.T) {
	check := func(s string) {
		got, ok := point.Parse(s)
		if want, legal := parseSimply(s); ok != legal || got != want {
			t.Errorf("Parse(%q) = %#v, %v, want %#v, %v", s, got, ok, want, legal)
		}
	}
	for _, s := range []string{"(0, 0, 0)", "(1, -2, 3)", "(10, 2/3, -40/7)", "(-1/2, -1/12, 0)"} {
		for i := range len(s) {
			check(s[:i])
			check(s[i:])
			check(s[:i] + s[i+1:])
			for b := range 256 {
				c := string([]byte{byte(b)})
				check(s[:i] + c + s[i:])
				check(s[:i] + c + s[i+1:])
				check(s + c)
			}
		}
	}
}

// P4.5

func TestOrder(t *testing.T) {
	// These are in lexicographic order, so that the order of two of them is that of their indices.
	var list []api.Point
	for _, x := range []string{"-1", "-1/2", "2/3"} {
		for _, y := range []string{"-1/3", "0", "1"} {
			for _, z := range []string{"-3", "1/7", "100"} {
				p := forms(fromBig(at(x, y, z)))
				list = append(list, p[len(list)%len(p)])
			}
		}
	}
	for i, a := range list {
		for j, b := range list {
			want := 0
			if i < j {
				want = -1
			} else if i > j {
				want = 1
			}
			if got := point.Cmp(a, b); got != want {
				t.Errorf("Cmp(%#v, %#v) = %d, want %d", a, b, got, want)
			}
		}
	}
	pairs(func(a, b api.Point) {
		if point.Cmp(a, b) != -point.Cmp(b, a) || (point.Cmp(a, b) == 0) != (point.Normalize(a) == point.Normalize(b)) {
			t.Fatalf("not antisymmetric: %#v %#v", a, b)
		}
	})
	r := rand.New(rand.NewSource(6))
	for range 5000 {
		a, b, c := random(r, 1), random(r, 1), random(r, 1)
		if point.Cmp(a, b) <= 0 && point.Cmp(b, c) <= 0 && point.Cmp(a, c) > 0 {
			t.Fatalf("not transitive: %#v %#v %#v", a, b, c)
		}
	}
}

func TestCoordsRoundTrip(t *testing.T) {
	singles(func(p api.Point) {
		if got, want := point.FromCoords(point.Coords(p)), point.Normalize(p); got != want || point.Cmp(got, p) != 0 {
			t.Fatalf("FromCoords(Coords(%#v)) = %#v, want %#v", p, got, want)
		}
	})
	vectors(func(v api.Vec3) {
		if got, want := point.Coords(point.FromCoords(v)), vecFromBig(vecToBig(v)); got != want {
			t.Fatalf("Coords(FromCoords(%#v)) = %#v, want %#v", v, got, want)
		}
	})
}

func TestTranslationIsInvertible(t *testing.T) {
	r := rand.New(rand.NewSource(7))
	check := func(p api.Point, v api.Vec3) {
		want := point.Normalize(p)
		if got := point.Add(point.Add(p, v), minus(v)); got != want {
			t.Fatalf("%#v translated by %#v and back is %#v", p, v, got)
		}
		if got := point.Add(p, api.Vec3{}); got != want {
			t.Fatalf("Add(%#v, 0) = %#v", p, got)
		}
	}
	singles(func(p api.Point) { check(p, randomVec(r, 8)) })
	vectors(func(v api.Vec3) { check(random(r, 8), v) })
}

func TestLerpLaws(t *testing.T) {
	one := rational.FromInt64(1)
	blends(func(a, b api.Point, step api.Rational) {
		if point.Lerp(a, b, step) != point.Lerp(b, a, rational.Sub(one, step)) {
			t.Fatalf("Lerp is not symmetric: %#v %#v %#v", a, b, step)
		}
		if point.Lerp(a, a, step) != point.Normalize(a) {
			t.Fatalf("Lerp(%#v) from a point to itself", a)
		}
	})
	zeros, ones := rationalForms(api.Rational{}), rationalForms(one)
	n := 0
	pairs(func(a, b api.Point) {
		n++
		if point.Lerp(a, b, zeros[n%len(zeros)]) != point.Normalize(a) || point.Lerp(a, b, ones[n%len(ones)]) != point.Normalize(b) {
			t.Fatalf("Lerp(%#v, %#v) at 0 or 1", a, b)
		}
	})
}

// TestForms checks that results are canonical and the same for all forms of the arguments.
func TestForms(t *testing.T) {
	results := func(a, b api.Point, v api.Vec3, step api.Rational) []api.Point {
		return []api.Point{point.Normalize(a), point.FromCoords(v), point.FromCoords(point.Coords(a)), point.Add(a, v), point.Lerp(a, b, step)}
	}
	for i, x := range edges() {
		y := edges()[(i+5)%len(edges())]
		b, v, s := forms(fromBig(y)), vecForms(vecFromBig(y)), rationalForms(fromBigRat(y[0]))
		want := results(fromBig(x), b[0], v[0], s[0])
		for _, p := range want {
			if p != fromBig(toBig(p)) {
				t.Fatalf("%v and %v: %#v is not in canonical form", x, y, p)
			}
		}
		for j, a := range forms(fromBig(x)) {
			if got := results(a, b[(j+1)%len(b)], v[j%len(v)], s[j%len(s)]); !slices.Equal(got, want) {
				t.Fatalf("%v and %v: %#v, want %#v", x, y, got, want)
			}
		}
	}
}

func FuzzPoint(f *testing.F) {
	f.Add(false, "", true, "\x00", false, "\x05", true, "\x06\x00", "(1, 2, 3)")
	f.Add(true, "\x06\x00", true, "\xff\xff", false, "", false, "\x00\x00", "(-1/2, 0, 7/3)")
	f.Add(true, "\x0a", false, "\x0f", true, "\x00\x01", true, "\x1e", "(2/4, 0, 0)")
	f.Fuzz(func(t *testing.T, xNeg bool, x string, yNeg bool, y string, zNeg bool, z string, wNeg bool, w string, s string) {
		p := api.Point{X: api.Int{Neg: xNeg, Mag: x}, Y: api.Int{Neg: yNeg, Mag: y}, Z: api.Int{Neg: zNeg, Mag: z}, W: api.Int{Neg: wNeg, Mag: w}}
		q := api.Point{X: p.W, Y: p.X, Z: p.Y, W: p.Z}
		v := api.Vec3{{Neg: xNeg, Num: x, Den: w}, {Neg: yNeg, Num: y, Den: x}, {Neg: zNeg, Num: z, Den: y}}
		a, b := toBig(p), toBig(q)
		if point.Normalize(p) != fromBig(a) || point.Coords(p) != vecFromBig(a) || point.FromCoords(v) != fromBig(vecToBig(v)) {
			t.Errorf("Normalize, Coords or FromCoords of %#v and %#v", p, v)
		}
		if point.Cmp(p, q) != compare(a, b) || point.Add(p, v) != fromBig(plus(a, vecToBig(v))) || point.Lerp(p, q, v[0]) != fromBig(lerp(a, b, bigRat(v[0]))) {
			t.Errorf("Cmp, Add or Lerp of %#v, %#v and %#v", p, q, v)
		}
		if got, ok := point.Parse(point.Format(p)); !ok || got != fromBig(a) {
			t.Errorf("Parse(Format(%#v)) = %#v, %v", p, got, ok)
		}
		got, ok := point.Parse(s)
		if want, legal := parseSimply(s); ok != legal || got != want {
			t.Errorf("Parse(%q) = %#v, %v", s, got, ok)
		}
	})
}
