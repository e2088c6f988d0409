package rational_test

import (
	"math"
	"math/big"
	"math/rand"
	"slices"
	"strings"
	"testing"

	"voussoir/api"
	"voussoir/integer"
	"voussoir/rational"
)

// natural returns the number that a magnitude represents.
func natural(magnitude string) *big.Int {
	bytes := []byte(magnitude)
	slices.Reverse(bytes)
	return new(big.Int).SetBytes(bytes)
}

// magnitude returns the magnitude of n without trailing zero bytes.
func magnitude(n *big.Int) string {
	bytes := n.Bytes()
	slices.Reverse(bytes)
	return string(bytes)
}

// bigInt returns the number that x represents, in whatever form x is.
func bigInt(x api.Int) *big.Int {
	n := natural(x.Mag)
	if x.Neg {
		n.Neg(n)
	}
	return n
}

// fromBigInt returns n in canonical form.
func fromBigInt(n *big.Int) api.Int {
	return api.Int{Neg: n.Sign() < 0, Mag: magnitude(n)}
}

// toBig returns the number that x represents, in whatever representation x is.
func toBig(x api.Rational) *big.Rat {
	den := natural(x.Den)
	if den.Sign() == 0 {
		den.SetInt64(1)
	}
	return new(big.Rat).SetFrac(bigInt(api.Int{Neg: x.Neg, Mag: x.Num}), den)
}

// fromBig returns n in canonical form.
func fromBig(n *big.Rat) api.Rational {
	x := api.Rational{Neg: n.Sign() < 0, Num: magnitude(n.Num())}
	if !n.IsInt() {
		x.Den = magnitude(n.Denom())
	}
	return x
}

// number returns the rational number with the text s, without layer 3.
func number(t *testing.T, s string) api.Rational {
	t.Helper()
	n, ok := new(big.Rat).SetString(s)
	if !ok {
		t.Fatalf("%q is not a rational number", s)
	}
	return fromBig(n)
}

// scaled returns the number x, which is in canonical form, with both magnitudes multiplied by factor.
func scaled(x api.Rational, factor int64) api.Rational {
	if x.Den == "" {
		x.Den = "\x01"
	}
	f := big.NewInt(factor)
	return api.Rational{Neg: x.Neg, Num: magnitude(f.Mul(f, natural(x.Num))), Den: magnitude(new(big.Int).Mul(big.NewInt(factor), natural(x.Den)))}
}

// forms returns representations of x, which is in canonical form: not in lowest terms, with trailing zero bytes, with
// each way to write a denominator of 1 and with both signs of zero.
func forms(x api.Rational) []api.Rational {
	list := []api.Rational{x, scaled(x, 6), scaled(x, 256), scaled(x, math.MaxInt64)}
	if x.Den == "" {
		list = append(list, scaled(x, 1), api.Rational{Neg: x.Neg, Num: x.Num, Den: "\x00"}, api.Rational{Neg: x.Neg, Num: x.Num, Den: strings.Repeat("\x00", 9)})
	}
	for _, y := range slices.Clone(list) {
		list = append(list, api.Rational{Neg: y.Neg, Num: y.Num + "\x00", Den: y.Den}, api.Rational{Neg: y.Neg, Num: y.Num, Den: y.Den + "\x00\x00"})
	}
	if x.Num == "" {
		for _, y := range slices.Clone(list) {
			list = append(list, api.Rational{Neg: true, Num: y.Num, Den: y.Den})
		}
	}
	return list
}

// edges returns numbers of both signs, whole ones and fractions of few and of many bytes, in canonical form.
func edges() []api.Rational {
	var list []api.Rational
	for _, s := range []string{
		"0", "1", "2", "3", "1/2", "1/3", "2/3", "3/2", "5/6", "7/2", "255", "256", "255/256", "256/255", "1/255", "1/256", "257/256",
		"65535/65536", "9223372036854775807", "9223372036854775808/3", "1/18446744073709551615", "18446744073709551616", "18446744073709551616/18446744073709551615",
		"1/1" + strings.Repeat("0", 60), "1" + strings.Repeat("0", 60) + "/7", strings.Repeat("9", 60) + "/" + strings.Repeat("8", 59) + "7",
	} {
		n, _ := new(big.Rat).SetString(s)
		list = append(list, fromBig(n))
		if n.Sign() != 0 {
			list = append(list, fromBig(n.Neg(n)))
		}
	}
	return list
}

// edgesInAllForms returns the edges in many representations.
func edgesInAllForms() []api.Rational {
	var list []api.Rational
	for _, x := range edges() {
		list = append(list, forms(x)...)
	}
	return list
}

// randomMagnitude returns a magnitude of up to size bytes. Zeros and extreme bytes are frequent.
func randomMagnitude(r *rand.Rand, size int) string {
	bytes := make([]byte, r.Intn(size+1))
	for i := range bytes {
		bytes[i] = []byte{0, 1, 2, 6, 0xff, byte(r.Intn(256)), byte(r.Intn(256))}[r.Intn(7)]
	}
	return string(bytes)
}

// random returns a number with magnitudes of up to size bytes, in any representation.
func random(r *rand.Rand, size int) api.Rational {
	return api.Rational{Neg: r.Intn(2) == 0, Num: randomMagnitude(r, size), Den: randomMagnitude(r, size)}
}

// singles calls check with the edges in many representations and with random numbers, up to many bytes.
func singles(check func(x api.Rational)) {
	for _, x := range edgesInAllForms() {
		check(x)
	}
	r := rand.New(rand.NewSource(1))
	for range 4000 {
		check(random(r, 2))
		check(random(r, 30))
	}
	for range 20 {
		check(random(r, 900))
	}
}

// pairs calls check with pairs of edges in several representations and of random numbers, up to many bytes.
func pairs(check func(a, b api.Rational)) {
	for _, x := range edges() {
		for _, y := range edges() {
			a, b := forms(x), forms(y)
			for i := range max(len(a), len(b)) {
				check(a[i%len(a)], b[(i+1)%len(b)])
			}
		}
	}
	r := rand.New(rand.NewSource(2))
	for range 4000 {
		check(random(r, 2), random(r, 2))
		check(random(r, 30), random(r, 30))
	}
	for range 20 {
		check(random(r, 600), random(r, 600))
		check(random(r, 600), random(r, 5))
		check(random(r, 5), random(r, 600))
	}
}

// triples calls check with triples of some edges in several representations and of random numbers.
func triples(check func(a, b, c api.Rational)) {
	list := []api.Rational{{}, {Neg: true, Num: "\x00"}, {Neg: true, Den: "\x05"}, {Num: "\x01"}, {Neg: true, Num: "\x02\x00", Den: "\x02"},
		{Num: "\x05", Den: "\x00\x00"}, {Num: "\x01", Den: "\x02"}, {Neg: true, Num: "\x03", Den: "\x09\x00"}, {Num: "\x00\x01", Den: "\xff"},
		{Neg: true, Num: strings.Repeat("\xff", 20), Den: "\x0a"}, {Num: "\x07", Den: strings.Repeat("\x00", 20) + "\x01"}}
	for _, a := range list {
		for _, b := range list {
			for _, c := range list {
				check(a, b, c)
			}
		}
	}
	r := rand.New(rand.NewSource(3))
	for range 2000 {
		check(random(r, 2), random(r, 2), random(r, 2))
		check(random(r, 20), random(r, 20), random(r, 20))
	}
	check(random(r, 300), random(r, 300), random(r, 300))
}

// same reports whether got is the canonical form of want.
func same(got api.Rational, want *big.Rat) bool {
	return got == fromBig(want)
}

// P3.1

func TestNormalize(t *testing.T) {
	for _, c := range [][2]api.Rational{
		{{}, {}}, {{Neg: true}, {}}, {{Neg: true, Num: "\x00\x00", Den: "\x00"}, {}}, {{Den: "\x04"}, {}}, {{Neg: true, Num: "\x00", Den: "\x04\x00"}, {}},
		{{Num: "\x05"}, {Num: "\x05"}}, {{Num: "\x05", Den: "\x00"}, {Num: "\x05"}}, {{Neg: true, Num: "\x05\x00", Den: "\x00\x00\x00"}, {Neg: true, Num: "\x05"}},
		{{Num: "\x05", Den: "\x01"}, {Num: "\x05"}}, {{Num: "\x05", Den: "\x01\x00"}, {Num: "\x05"}}, {{Num: "\x05", Den: "\x05"}, {Num: "\x01"}},
		{{Neg: true, Num: "\x05", Den: "\x05\x00"}, {Neg: true, Num: "\x01"}}, {{Num: "\x0a", Den: "\x05"}, {Num: "\x02"}},
		{{Num: "\x05", Den: "\x0a"}, {Num: "\x01", Den: "\x02"}}, {{Neg: true, Num: "\x06", Den: "\x04"}, {Neg: true, Num: "\x03", Den: "\x02"}},
		{{Num: "\x00\x06\x00", Den: "\x00\x04"}, {Num: "\x03", Den: "\x02"}}, {{Num: "\x03\x00", Den: "\x02\x00\x00"}, {Num: "\x03", Den: "\x02"}},
		{{Num: "\x00\x01", Den: "\xff"}, {Num: "\x00\x01", Den: "\xff"}},
		{{Num: strings.Repeat("\x00", 900) + "\x03", Den: strings.Repeat("\x00", 900) + "\x02\x00"}, {Num: "\x03", Den: "\x02"}},
		{{Neg: true, Num: strings.Repeat("\x00", 900), Den: strings.Repeat("\x00", 900)}, {}},
	} {
		if got := rational.Normalize(c[0]); got != c[1] {
			t.Errorf("Normalize(%#v) = %#v, want %#v", c[0], got, c[1])
		}
	}
	for _, x := range edges() {
		for _, y := range forms(x) {
			if got := rational.Normalize(y); got != x {
				t.Errorf("Normalize(%#v) = %#v, want %#v", y, got, x)
			}
		}
	}
	singles(func(x api.Rational) {
		if got := rational.Normalize(x); !same(got, toBig(x)) {
			t.Fatalf("Normalize(%#v) = %#v", x, got)
		}
	})
}

// intForms returns x with and without trailing zero bytes and, if x is zero, with both signs.
func intForms(x api.Int) []api.Int {
	list := []api.Int{x, {Neg: x.Neg, Mag: x.Mag + "\x00"}, {Neg: x.Neg, Mag: x.Mag + strings.Repeat("\x00", 9)}}
	if x.Mag == "" {
		list = append(list, api.Int{Neg: true}, api.Int{Neg: true, Mag: "\x00\x00"})
	}
	return list
}

func TestMake(t *testing.T) {
	for _, c := range []struct {
		n, d int64
		want string
	}{
		{6, 4, "3/2"}, {-6, 4, "-3/2"}, {6, -4, "-3/2"}, {-6, -4, "3/2"}, {0, 4, "0"}, {0, -4, "0"}, {7, 1, "7"}, {7, -1, "-7"}, {-7, -1, "7"},
		{8, 8, "1"}, {-8, 8, "-1"}, {8, -8, "-1"}, {1, 256, "1/256"}, {256, -1, "-256"}, {math.MinInt64, 1 << 62, "-2"}, {math.MinInt64, math.MinInt64, "1"},
		{1, math.MinInt64, "-1/9223372036854775808"}, {math.MaxInt64, math.MinInt64, "-9223372036854775807/9223372036854775808"},
	} {
		for _, n := range intForms(integer.FromInt64(c.n)) {
			for _, d := range intForms(integer.FromInt64(c.d)) {
				if got, ok := rational.Make(n, d); !ok || got != number(t, c.want) {
					t.Errorf("Make(%#v, %#v) = %#v, %v, want %s", n, d, got, ok, c.want)
				}
			}
		}
	}
	r := rand.New(rand.NewSource(4))
	for i := range 4000 {
		size := 2 + i%30
		n, d := api.Int{Neg: r.Intn(2) == 0, Mag: randomMagnitude(r, size)}, api.Int{Neg: r.Intn(2) == 0, Mag: randomMagnitude(r, size)}
		got, ok := rational.Make(n, d)
		if bigInt(d).Sign() == 0 {
			if ok || got != (api.Rational{}) {
				t.Fatalf("Make(%#v, %#v) = %#v, %v", n, d, got, ok)
			}
		} else if !ok || !same(got, new(big.Rat).SetFrac(bigInt(n), bigInt(d))) {
			t.Fatalf("Make(%#v, %#v) = %#v, %v", n, d, got, ok)
		}
	}
}

func TestMakeOfZeroDenominator(t *testing.T) {
	for _, n := range []api.Int{{}, {Neg: true}, {Mag: "\x01"}, {Neg: true, Mag: "\x05\x00"}, {Mag: strings.Repeat("\xff", 900)}} {
		for _, d := range intForms(api.Int{}) {
			if got, ok := rational.Make(n, d); ok || got != (api.Rational{}) {
				t.Errorf("Make(%#v, %#v) = %#v, %v", n, d, got, ok)
			}
		}
	}
}

func TestFromInt64(t *testing.T) {
	for n, want := range map[int64]api.Rational{
		0: {}, 1: {Num: "\x01"}, -1: {Neg: true, Num: "\x01"}, 255: {Num: "\xff"}, -256: {Neg: true, Num: "\x00\x01"},
		math.MaxInt64: {Num: "\xff\xff\xff\xff\xff\xff\xff\x7f"}, math.MinInt64: {Neg: true, Num: "\x00\x00\x00\x00\x00\x00\x00\x80"},
	} {
		if got := rational.FromInt64(n); got != want {
			t.Errorf("FromInt64(%d) = %#v, want %#v", n, got, want)
		}
	}
	r := rand.New(rand.NewSource(5))
	for range 2000 {
		n := int64(r.Uint64()) >> r.Intn(64)
		if got := rational.FromInt64(n); !same(got, new(big.Rat).SetInt64(n)) {
			t.Fatalf("FromInt64(%d) = %#v", n, got)
		}
	}
}

func TestNumDenom(t *testing.T) {
	for _, c := range []struct {
		text string
		n, d int64
	}{
		{"0", 0, 1}, {"5", 5, 1}, {"-5", -5, 1}, {"3/2", 3, 2}, {"-3/2", -3, 2}, {"1/256", 1, 256}, {"-256/255", -256, 255}, {"-1", -1, 1},
	} {
		for _, x := range forms(number(t, c.text)) {
			if n, d := rational.NumDenom(x); n != integer.FromInt64(c.n) || d != integer.FromInt64(c.d) {
				t.Errorf("NumDenom(%#v) = %#v, %#v, want %d, %d", x, n, d, c.n, c.d)
			}
		}
	}
	singles(func(x api.Rational) {
		n, d := rational.NumDenom(x)
		if want := toBig(x); n != fromBigInt(want.Num()) || d != fromBigInt(want.Denom()) {
			t.Fatalf("NumDenom(%#v) = %#v, %#v, want %v", x, n, d, want)
		}
	})
}

func TestCmpAndSign(t *testing.T) {
	for _, c := range []struct {
		a, b string
		want int
	}{
		{"0", "0", 0}, {"1/3", "333/1000", 1}, {"1/3", "1/2", -1}, {"-1/3", "-1/2", 1}, {"-1/3", "-1/4", -1}, {"1/2", "-1/2", 1}, {"-1/2", "1/2", -1},
		{"0", "1/256", -1}, {"0", "-1/256", 1}, {"-1/256", "0", -1}, {"3/2", "3/2", 0}, {"-3/2", "-3/2", 0}, {"2", "3/2", 1}, {"-2", "-3/2", -1},
		{"256", "255", 1}, {"1/256", "1/255", -1}, {"7/3", "7/2", -1}, {"-7/3", "-7/2", 1}, {"100000000000000000001/100000000000000000000", "1", 1},
	} {
		for _, a := range forms(number(t, c.a)) {
			for _, b := range forms(number(t, c.b)) {
				if got := rational.Cmp(a, b); got != c.want {
					t.Errorf("Cmp(%#v, %#v) = %d, want %d", a, b, got, c.want)
				}
			}
		}
	}
	pairs(func(a, b api.Rational) {
		if got, want := rational.Cmp(a, b), toBig(a).Cmp(toBig(b)); got != want {
			t.Fatalf("Cmp(%#v, %#v) = %d, want %d", a, b, got, want)
		}
	})
	singles(func(x api.Rational) {
		if got, want := rational.Sign(x), toBig(x).Sign(); got != want || got != rational.Cmp(x, api.Rational{}) {
			t.Fatalf("Sign(%#v) = %d, want %d", x, got, want)
		}
	})
}

func TestOperations(t *testing.T) {
	for _, c := range []struct{ a, b, sum, difference, product, quotient string }{
		{"1/2", "1/3", "5/6", "1/6", "1/6", "3/2"}, {"1/2", "-1/2", "0", "1", "-1/4", "-1"}, {"-1/2", "-1/2", "-1", "0", "1/4", "1"},
		{"1/3", "1/2", "5/6", "-1/6", "1/6", "2/3"}, {"-2/3", "9/4", "19/12", "-35/12", "-3/2", "-8/27"}, {"2/3", "-9/4", "-19/12", "35/12", "-3/2", "-8/27"},
		{"0", "7", "7", "-7", "0", "0"}, {"0", "-7/2", "-7/2", "7/2", "0", "0"}, {"1/6", "1/3", "1/2", "-1/6", "1/18", "1/2"},
		{"1/6", "-2/3", "-1/2", "5/6", "-1/9", "-1/4"}, {"300", "1/256", "76801/256", "76799/256", "75/64", "76800"}, {"5", "-1", "4", "6", "-5", "-5"},
		{"-5", "-1", "-6", "-4", "5", "5"}, {"3", "6", "9", "-3", "18", "1/2"}, {"-3", "6", "3", "-9", "-18", "-1/2"}, {"2/3", "3/2", "13/6", "-5/6", "1", "4/9"},
	} {
		for _, a := range forms(number(t, c.a)) {
			for _, b := range forms(number(t, c.b)) {
				quotient, ok := rational.Div(a, b)
				got := []api.Rational{rational.Add(a, b), rational.Sub(a, b), rational.Mul(a, b), quotient}
				want := []api.Rational{number(t, c.sum), number(t, c.difference), number(t, c.product), number(t, c.quotient)}
				if !ok || !slices.Equal(got, want) {
					t.Fatalf("%#v and %#v: %#v, want %#v", a, b, got, want)
				}
			}
		}
	}
	pairs(func(a, b api.Rational) {
		x, y := toBig(a), toBig(b)
		if got := rational.Add(a, b); !same(got, new(big.Rat).Add(x, y)) {
			t.Fatalf("Add(%#v, %#v) = %#v", a, b, got)
		}
		if got := rational.Sub(a, b); !same(got, new(big.Rat).Sub(x, y)) {
			t.Fatalf("Sub(%#v, %#v) = %#v", a, b, got)
		}
		if got := rational.Mul(a, b); !same(got, new(big.Rat).Mul(x, y)) {
			t.Fatalf("Mul(%#v, %#v) = %#v", a, b, got)
		}
		checkDiv(t, a, b)
	})
}

// checkDiv compares the quotient of a by b with that of math/big.
func checkDiv(t *testing.T, a, b api.Rational) {
	t.Helper()
	got, ok := rational.Div(a, b)
	if toBig(b).Sign() == 0 {
		if ok || got != (api.Rational{}) {
			t.Fatalf("Div(%#v, %#v) = %#v, %v", a, b, got, ok)
		}
	} else if !ok || !same(got, new(big.Rat).Quo(toBig(a), toBig(b))) {
		t.Fatalf("Div(%#v, %#v) = %#v, %v", a, b, got, ok)
	}
}

func TestDivByZero(t *testing.T) {
	for _, a := range edgesInAllForms() {
		for _, b := range forms(api.Rational{}) {
			if got, ok := rational.Div(a, b); ok || got != (api.Rational{}) {
				t.Fatalf("Div(%#v, %#v) = %#v, %v", a, b, got, ok)
			}
		}
	}
}

func TestNeg(t *testing.T) {
	singles(func(x api.Rational) {
		if got := rational.Neg(x); !same(got, new(big.Rat).Neg(toBig(x))) {
			t.Fatalf("Neg(%#v) = %#v", x, got)
		}
	})
}

func TestFloor(t *testing.T) {
	for s, want := range map[string]int64{
		"0": 0, "1/2": 0, "-1/2": -1, "1/256": 0, "-1/256": -1, "255/256": 0, "-255/256": -1, "7": 7, "-7": -7, "7/2": 3, "-7/2": -4, "1": 1, "-1": -1,
		"257/256": 1, "-257/256": -2, "256": 256, "-256": -256, "22/7": 3, "-22/7": -4,
	} {
		for _, x := range forms(number(t, s)) {
			if got := rational.Floor(x); got != integer.FromInt64(want) {
				t.Errorf("Floor(%#v) = %#v, want %d", x, got, want)
			}
		}
	}
	singles(func(x api.Rational) {
		n := toBig(x)
		// The Euclidean division of math/big rounds down, because the denominator is positive.
		if got, want := rational.Floor(x), fromBigInt(new(big.Int).Div(n.Num(), n.Denom())); got != want {
			t.Fatalf("Floor(%#v) = %#v, want %#v", x, got, want)
		}
	})
}

func TestFits(t *testing.T) {
	long := "1" + strings.Repeat("0", 100)
	for _, c := range []struct {
		text  string
		bytes int
		want  bool
	}{
		{"0", 0, true}, {"0", 1, true}, {"0", -1, false}, {"1", 0, false}, {"1", 1, true}, {"1", -1, false}, {"-1", 0, false}, {"-1", 1, true},
		{"255", 1, true}, {"-255", 1, true}, {"256", 1, false}, {"-256", 1, false}, {"256", 2, true}, {"65535", 2, true}, {"65536", 2, false},
		{"255/254", 1, true}, {"-255/254", 1, true}, {"1/255", 1, true}, {"1/256", 1, false}, {"1/256", 2, true}, {"256/255", 1, false}, {"256/255", 2, true},
		{"65536/65535", 2, false}, {"65535/65536", 2, false}, {"65535/65536", 3, true}, {"1/2", 0, false}, {"1/2", -1, false},
		{"340282366920938463463374607431768211455", 16, true}, {"340282366920938463463374607431768211456", 16, false},
		{"1/340282366920938463463374607431768211455", 16, true}, {"1/340282366920938463463374607431768211456", 16, false},
		{"-" + long + "/3", 41, false}, {"-" + long + "/3", 42, true}, {"3/" + long, 41, false}, {"3/" + long, 42, true},
		{"1/2", math.MaxInt, true}, {"0", math.MinInt, false}, {long, math.MinInt, false}, {long, math.MaxInt, true},
	} {
		for _, x := range forms(number(t, c.text)) {
			if got := rational.Fits(x, c.bytes); got != c.want {
				t.Errorf("Fits(%#v, %d) = %v, want %v", x, c.bytes, got, c.want)
			}
		}
	}
	singles(func(x api.Rational) {
		want := fromBig(toBig(x))
		limit := max(len(want.Num), len(want.Den))
		if !rational.Fits(x, limit) || rational.Fits(x, limit-1) {
			t.Fatalf("Fits(%#v) does not change at %d bytes", x, limit)
		}
	})
}

func TestFormat(t *testing.T) {
	for s, want := range map[string]api.Rational{
		"0": {}, "7": {Num: "\x07"}, "-7": {Neg: true, Num: "\x07"}, "7/2": {Num: "\x07", Den: "\x02"}, "-7/2": {Neg: true, Num: "\x07", Den: "\x02"},
		"1/256": {Num: "\x01", Den: "\x00\x01"}, "-256": {Neg: true, Num: "\x00\x01"}, "1": {Num: "\x01"}, "100/3": {Num: "\x64", Den: "\x03"},
		"-1/18446744073709551616": {Neg: true, Num: "\x01", Den: "\x00\x00\x00\x00\x00\x00\x00\x00\x01"},
	} {
		for _, x := range forms(want) {
			if got := rational.Format(x); got != s {
				t.Errorf("Format(%#v) = %#v, want %#v", x, got, s)
			}
		}
	}
	singles(func(x api.Rational) {
		if got, want := rational.Format(x), toBig(x).RatString(); got != want {
			t.Fatalf("Format(%#v) = %#v, want %#v", x, got, want)
		}
	})
}

func TestParse(t *testing.T) {
	zeros, nines := strings.Repeat("0", 50), strings.Repeat("9", 50)
	for s, want := range map[string]string{
		"0": "0", "-0": "0", "00": "0", "-000": "0", "7": "7", "-7": "-7", "007": "7", "-007": "-7", "10": "10", "0/1": "0", "-0/7": "0", "00/007": "0",
		"7/1": "7", "1/2": "1/2", "-1/2": "-1/2", "007/3": "7/3", "7/003": "7/3", "-6/4": "-3/2", "10/5": "2", "-10/5": "-2", "5/10": "1/2", "9/9": "1",
		"100/10": "10", "12.50": "25/2", "-12.50": "-25/2", "0.0": "0", "-0.0": "0", "0.5": "1/2", "-0.25": "-1/4", "00.50": "1/2", "7.0": "7", "-7.000": "-7",
		"0.10": "1/10", "0.01": "1/100", "1.01": "101/100", "10.00": "10", "3.125": "25/8", "0.333": "333/1000", "123.456": "15432/125",
		"18446744073709551616": "18446744073709551616", "1/18446744073709551616": "1/18446744073709551616", zeros + "7": "7", "7/" + zeros + "7": "1",
		zeros: "0", zeros + "." + zeros: "0", "-" + zeros + "/" + nines: "0", nines + "/" + nines: "1", "0." + zeros + "1": "1/1" + zeros + "0",
		nines + "." + nines: nines + nines + "/1" + zeros, "-" + nines + "." + zeros: "-" + nines, "1" + zeros + "/1" + zeros + "0": "1/10",
	} {
		if got, ok := rational.Parse(s); !ok || got != number(t, want) {
			t.Errorf("Parse(%q) = %#v, %v, want %s", s, got, ok, want)
		}
	}
}

func TestParseRefuses(t *testing.T) {
	for _, s := range []string{
		"", "-", "--", "--1", "---1", "+", "+1", "-+1", "+-1", "1-", "1-1", "-1-", "0-1", "-0-1",
		"/", "-/", "1/", "-1/", "/2", "-/2", "1//2", "1/2/", "/1/2", "1/2/3", "1/-2", "-1/-2", "1/+2", "1/ 2", "1 /2", "1/2-", "0/", "/0", "1/a", "a/1", "1/0x2",
		"1/0", "-1/0", "0/0", "-0/0", "1/00", "1/000000000000", "1/-0", "1/" + strings.Repeat("0", 500), strings.Repeat("1", 500) + "/" + strings.Repeat("0", 500),
		".", "-.", ".5", "-.5", "5.", "-5.", "0.", ".0", "1..2", "1.2.", ".1.2", "1.2.3", "1.-2", "-1.-2", "1.+2", "1. 2", "1 .2", "1.a", "a.1",
		"1.2/3", "1/2.3", "1.2/3.4", "1./2", "1/.2", ".1/2", "1/2.", "./", "/.", "1/.", "1./", "0.0/1", "0/1.0", "1.0/0",
		"1a", "a1", "a", "-a", "0x10", " 1", "1 ", "- 1", " -1", "1 2", "1,5", "1_000", "1e3", "1.5e3", "1E-3", "inf", "NaN", "1:2", "1\\2", ":", "1\n", "\n",
		"\x00", "-\x00", "1\x00", "\x001", "1/\x00", "1/\x002", "1.\x00", "\xff", "1/\xff", "\u22121", "\u0661", "-\uff11", "1\u20442", "1\u00bd", "\u00bd",
		"0" + strings.Repeat("9", 500) + "x", strings.Repeat("1", 500) + "/" + strings.Repeat("1", 500) + "x", strings.Repeat(".", 500), strings.Repeat("/", 500),
	} {
		if got, ok := rational.Parse(s); ok || got != (api.Rational{}) {
			t.Errorf("Parse(%q) = %#v, %v, want false", s, got, ok)
		}
	}
	for b := range 256 {
		c, digit := string([]byte{byte(b)}), b >= '0' && b <= '9'
		positive := digit && c != "0"
		for s, want := range map[string]bool{
			c: digit, "-" + c: digit, "1" + c: digit, c + "1": digit || c == "-", "1" + c + "1": digit || c == "/" || c == ".", "-1" + c + "1": digit || c == "/" || c == ".",
			"1/" + c: positive, "1/1" + c: digit, "1/" + c + "1": digit, "1/1" + c + "1": digit, c + "/1": digit, "1" + c + "/1": digit,
			"1." + c: digit, "1.1" + c: digit, "1." + c + "1": digit, "1.1" + c + "1": digit, c + ".1": digit, "1" + c + ".1": digit,
		} {
			if got, ok := rational.Parse(s); ok != want || !ok && got != (api.Rational{}) {
				t.Errorf("Parse(%q) = %#v, %v", s, got, ok)
			}
		}
	}
}

// TestForms checks that results are canonical and the same for all representations of the arguments.
func TestForms(t *testing.T) {
	results := func(a, b api.Rational) []api.Rational {
		quotient, _ := rational.Div(a, b)
		return []api.Rational{rational.Normalize(a), rational.Neg(a), rational.Add(a, b), rational.Sub(a, b), rational.Mul(a, b), quotient}
	}
	for _, x := range edges() {
		for _, y := range edges() {
			want := results(x, y)
			for _, z := range want {
				if z != fromBig(toBig(z)) {
					t.Fatalf("%#v and %#v: %#v is not in canonical form", x, y, z)
				}
			}
			b := forms(y)
			for i, a := range forms(x) {
				if got := results(a, b[i%len(b)]); !slices.Equal(got, want) {
					t.Fatalf("%#v and %#v: %#v, want %#v", a, b[i%len(b)], got, want)
				}
			}
		}
	}
}

// P3.2

func TestField(t *testing.T) {
	add, mul := rational.Add, rational.Mul
	triples(func(a, b, c api.Rational) {
		if add(a, b) != add(b, a) || mul(a, b) != mul(b, a) {
			t.Fatalf("not commutative: %#v %#v", a, b)
		}
		if add(add(a, b), c) != add(a, add(b, c)) || mul(mul(a, b), c) != mul(a, mul(b, c)) {
			t.Fatalf("not associative: %#v %#v %#v", a, b, c)
		}
		if mul(a, add(b, c)) != add(mul(a, b), mul(a, c)) {
			t.Fatalf("not distributive: %#v %#v %#v", a, b, c)
		}
		x := rational.Normalize(a)
		if rational.Sub(add(a, b), b) != x || add(rational.Sub(a, b), b) != x || add(a, rational.Neg(b)) != rational.Sub(a, b) {
			t.Fatalf("Sub is not the inverse of Add: %#v %#v", a, b)
		}
		if add(a, api.Rational{}) != x || mul(a, rational.FromInt64(1)) != x || mul(a, api.Rational{}) != (api.Rational{}) {
			t.Fatalf("0 or 1 is not neutral: %#v", a)
		}
	})
}

func TestDivIsTheInverseOfMul(t *testing.T) {
	pairs(func(a, b api.Rational) {
		quotient, ok := rational.Div(a, b)
		if ok != (rational.Sign(b) != 0) {
			t.Fatalf("Div(%#v, %#v) reports %v", a, b, ok)
		}
		if !ok {
			return
		}
		x := rational.Normalize(a)
		if back, _ := rational.Div(rational.Mul(a, b), b); back != x || rational.Mul(quotient, b) != x {
			t.Fatalf("Div is not the inverse of Mul: %#v %#v", a, b)
		}
	})
}

// P3.3

func TestOrder(t *testing.T) {
	cmp := rational.Cmp
	triples(func(a, b, c api.Rational) {
		if cmp(a, b) != -cmp(b, a) || (cmp(a, b) == 0) != (rational.Normalize(a) == rational.Normalize(b)) {
			t.Fatalf("not antisymmetric: %#v %#v", a, b)
		}
		if cmp(a, b) <= 0 && cmp(b, c) <= 0 && cmp(a, c) > 0 {
			t.Fatalf("not transitive: %#v %#v %#v", a, b, c)
		}
		if cmp(rational.Add(a, c), rational.Add(b, c)) != cmp(a, b) {
			t.Fatalf("not preserved by addition: %#v %#v %#v", a, b, c)
		}
		if rational.Sign(c) > 0 && cmp(rational.Mul(a, c), rational.Mul(b, c)) != cmp(a, b) {
			t.Fatalf("not preserved by multiplication: %#v %#v %#v", a, b, c)
		}
		if cmp(a, b) != rational.Sign(rational.Sub(a, b)) {
			t.Fatalf("not the sign of the difference: %#v %#v", a, b)
		}
	})
}

func TestFloorLaw(t *testing.T) {
	singles(func(x api.Rational) {
		floor, ok := rational.Make(rational.Floor(x), integer.FromInt64(1))
		if !ok || rational.Cmp(floor, x) > 0 || rational.Cmp(x, rational.Add(floor, rational.FromInt64(1))) >= 0 {
			t.Fatalf("Floor(%#v) = %#v", x, floor)
		}
	})
}

// P3.4

func TestRoundTrip(t *testing.T) {
	singles(func(x api.Rational) {
		if got, ok := rational.Parse(rational.Format(x)); !ok || got != rational.Normalize(x) {
			t.Fatalf("Parse(Format(%#v)) = %#v, %v", x, got, ok)
		}
	})
}

func FuzzRational(f *testing.F) {
	f.Add(false, "", "", true, "\x00", "\x05")
	f.Add(true, "\x06\x00", "\x04", false, "\xff\xff\x00", "\x00")
	f.Add(true, "-1/2", "12.50", true, "7", "\x00\x00\x00\x80\x00")
	f.Fuzz(func(t *testing.T, aNeg bool, aNum, aDen string, bNeg bool, bNum, bDen string) {
		a, b := api.Rational{Neg: aNeg, Num: aNum, Den: aDen}, api.Rational{Neg: bNeg, Num: bNum, Den: bDen}
		x, y := toBig(a), toBig(b)
		if rational.Cmp(a, b) != x.Cmp(y) || !same(rational.Add(a, b), new(big.Rat).Add(x, y)) || !same(rational.Sub(a, b), new(big.Rat).Sub(x, y)) {
			t.Errorf("Cmp, Add or Sub of %#v and %#v", a, b)
		}
		if !same(rational.Mul(a, b), new(big.Rat).Mul(x, y)) {
			t.Errorf("Mul of %#v and %#v", a, b)
		}
		checkDiv(t, a, b)
		if got, ok := rational.Parse(rational.Format(a)); !ok || !same(got, x) {
			t.Errorf("Parse(Format(%#v)) = %#v, %v", a, got, ok)
		}
		for _, s := range []string{aNum, aDen, bNum + "/" + bDen, "-" + aNum + "." + bNum} {
			got, ok := rational.Parse(s)
			if want, legal := parseSimply(s); ok != legal || got != want {
				t.Errorf("Parse(%q) = %#v, %v", s, got, ok)
			}
		}
	})
}

// parseSimply returns what Parse must return: it checks the form by hand and computes the value with math/big.
func parseSimply(s string) (api.Rational, bool) {
	digits := strings.TrimPrefix(s, "-")
	separators := 0
	for i := range len(digits) {
		if strings.Contains("/.", digits[i:i+1]) {
			separators++
			if i == 0 || i == len(digits)-1 {
				return api.Rational{}, false
			}
		} else if digits[i] < '0' || digits[i] > '9' {
			return api.Rational{}, false
		}
	}
	if digits == "" || separators > 1 {
		return api.Rational{}, false
	}
	if _, below, found := strings.Cut(digits, "/"); found && strings.Trim(below, "0") == "" {
		return api.Rational{}, false
	}
	// Without an exponent, and with digits that are known to be decimal, leading zeros do not select another base.
	above, below, found := strings.Cut(digits, "/")
	if !found {
		above, below, _ = strings.Cut(digits, ".")
		above, below = above+below, "1"+strings.Repeat("0", len(below))
	}
	n, _ := new(big.Int).SetString(above, 10)
	d, _ := new(big.Int).SetString(below, 10)
	value := new(big.Rat).SetFrac(n, d)
	if digits != s {
		value.Neg(value)
	}
	return fromBig(value), true
}
