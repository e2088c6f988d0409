package integer_test

import (
	"math"
	"math/big"
	"math/rand"
	"slices"
	"strings"
	"testing"

	"voussoir/api"
	"voussoir/integer"
)

// toBig returns the number that x represents, in whatever form x is.
func toBig(x api.Int) *big.Int {
	bytes := []byte(x.Mag)
	slices.Reverse(bytes)
	n := new(big.Int).SetBytes(bytes)
	if x.Neg {
		n.Neg(n)
	}
	return n
}

// fromBig returns n in canonical form.
func fromBig(n *big.Int) api.Int {
	bytes := n.Bytes()
	slices.Reverse(bytes)
	return api.Int{Neg: n.Sign() < 0, Mag: string(bytes)}
}

// number returns the integer with the decimal text s, without layer 2.
func number(t *testing.T, s string) api.Int {
	t.Helper()
	n, ok := new(big.Int).SetString(s, 10)
	if !ok {
		t.Fatalf("%q is not a decimal number", s)
	}
	return fromBig(n)
}

// forms returns x with and without trailing zero bytes and, if x is zero, with both signs.
func forms(x api.Int) []api.Int {
	list := []api.Int{x, {Neg: x.Neg, Mag: x.Mag + "\x00"}, {Neg: x.Neg, Mag: x.Mag + strings.Repeat("\x00", 9)}}
	if x.Mag == "" {
		list = append(list, api.Int{Neg: true}, api.Int{Neg: true, Mag: "\x00"}, api.Int{Neg: true, Mag: strings.Repeat("\x00", 9)})
	}
	return list
}

// edges returns integers of both signs at which carries, borrows and conversions change, in canonical form.
func edges() []api.Int {
	list := []api.Int{{}}
	add := func(n *big.Int) {
		if n.Sign() > 0 {
			list = append(list, fromBig(n), fromBig(new(big.Int).Neg(n)))
		}
	}
	for n := range int64(8) {
		add(big.NewInt(n))
	}
	for _, n := range []uint{8, 16, 32, 63, 64, 128, 400} {
		power := new(big.Int).Lsh(big.NewInt(1), n)
		for d := int64(-2); d <= 2; d++ {
			add(new(big.Int).Add(power, big.NewInt(d)))
		}
	}
	return list
}

// edgesInAllForms returns the edges in all their forms.
func edgesInAllForms() []api.Int {
	var list []api.Int
	for _, x := range edges() {
		list = append(list, forms(x)...)
	}
	return list
}

// random returns an integer of up to size bytes, in any form. Zeros and extreme bytes are frequent.
func random(r *rand.Rand, size int) api.Int {
	bytes := make([]byte, r.Intn(size+1))
	for i := range bytes {
		bytes[i] = []byte{0, 1, 0x7f, 0x80, 0xff, byte(r.Intn(256)), byte(r.Intn(256))}[r.Intn(7)]
	}
	return api.Int{Neg: r.Intn(2) == 0, Mag: string(bytes)}
}

// pairs calls check with pairs of edges in all forms and of random integers, up to many bytes.
func pairs(check func(a, b api.Int)) {
	list := edgesInAllForms()
	for _, a := range list {
		for _, b := range list {
			check(a, b)
		}
	}
	r := rand.New(rand.NewSource(1))
	for range 6000 {
		check(random(r, 3), random(r, 3))
		check(random(r, 40), random(r, 40))
	}
	for range 60 {
		check(random(r, 1500), random(r, 1500))
		check(random(r, 1500), random(r, 12))
		check(random(r, 12), random(r, 1500))
	}
}

// triples calls check with triples of some edges in several forms and of random integers.
func triples(check func(a, b, c api.Int)) {
	list := []api.Int{{}, {Neg: true}, {Neg: true, Mag: "\x00"}, {Mag: "\x01"}, {Neg: true, Mag: "\x01\x00"}, {Mag: "\x07"},
		{Mag: "\xff"}, {Neg: true, Mag: "\xff\x00"}, {Mag: "\x00\x01\x00"}, {Neg: true, Mag: "\x00\x01"},
		integer.FromInt64(math.MaxInt64), integer.FromInt64(math.MinInt64), {Neg: true, Mag: strings.Repeat("\xff", 20)},
		{Mag: strings.Repeat("\x00", 20) + "\x01\x00"}}
	for _, a := range list {
		for _, b := range list {
			for _, c := range list {
				check(a, b, c)
			}
		}
	}
	r := rand.New(rand.NewSource(2))
	for range 2000 {
		check(random(r, 3), random(r, 3), random(r, 3))
		check(random(r, 40), random(r, 40), random(r, 40))
	}
	check(random(r, 1500), random(r, 1500), random(r, 1500))
}

// P2.1

func TestNormalize(t *testing.T) {
	for _, c := range [][2]api.Int{
		{{}, {}}, {{Neg: true}, {}}, {{Neg: true, Mag: "\x00\x00"}, {}}, {{Mag: "\x00"}, {}}, {{Mag: "\x05"}, {Mag: "\x05"}},
		{{Neg: true, Mag: "\x05"}, {Neg: true, Mag: "\x05"}}, {{Neg: true, Mag: "\x05\x00\x00"}, {Neg: true, Mag: "\x05"}},
		{{Mag: "\x00\x01\x00"}, {Mag: "\x00\x01"}}, {{Neg: true, Mag: "\x00\x01\x00"}, {Neg: true, Mag: "\x00\x01"}},
		{{Neg: true, Mag: strings.Repeat("\x00", 3000)}, {}},
		{{Neg: true, Mag: strings.Repeat("\x07", 3000) + strings.Repeat("\x00", 3000)}, {Neg: true, Mag: strings.Repeat("\x07", 3000)}},
	} {
		if got := integer.Normalize(c[0]); got != c[1] {
			t.Errorf("Normalize(%v) = %v, want %v", c[0], got, c[1])
		}
	}
	for _, x := range edgesInAllForms() {
		if got, want := integer.Normalize(x), fromBig(toBig(x)); got != want {
			t.Errorf("Normalize(%v) = %v, want %v", x, got, want)
		}
	}
}

func TestFromInt64(t *testing.T) {
	for n, want := range map[int64]api.Int{
		0: {}, 1: {Mag: "\x01"}, -1: {Neg: true, Mag: "\x01"}, 255: {Mag: "\xff"}, 256: {Mag: "\x00\x01"}, -256: {Neg: true, Mag: "\x00\x01"},
		math.MaxInt64:     {Mag: "\xff\xff\xff\xff\xff\xff\xff\x7f"},
		math.MaxInt64 - 1: {Mag: "\xfe\xff\xff\xff\xff\xff\xff\x7f"},
		math.MinInt64:     {Neg: true, Mag: "\x00\x00\x00\x00\x00\x00\x00\x80"},
		math.MinInt64 + 1: {Neg: true, Mag: "\xff\xff\xff\xff\xff\xff\xff\x7f"},
	} {
		if got := integer.FromInt64(n); got != want {
			t.Errorf("FromInt64(%d) = %v, want %v", n, got, want)
		}
	}
	r := rand.New(rand.NewSource(3))
	for range 2000 {
		n := int64(r.Uint64()) >> r.Intn(64)
		if got, want := integer.FromInt64(n), fromBig(big.NewInt(n)); got != want {
			t.Fatalf("FromInt64(%d) = %v, want %v", n, got, want)
		}
	}
}

func TestInt64(t *testing.T) {
	for _, c := range []struct {
		text string
		want int64
		ok   bool
	}{
		{"0", 0, true}, {"1", 1, true}, {"-1", -1, true}, {"256", 256, true}, {"-256", -256, true},
		{"9223372036854775806", math.MaxInt64 - 1, true}, {"9223372036854775807", math.MaxInt64, true},
		{"9223372036854775808", 0, false}, {"9223372036854775809", 0, false},
		{"-9223372036854775807", math.MinInt64 + 1, true}, {"-9223372036854775808", math.MinInt64, true},
		{"-9223372036854775809", 0, false}, {"-9223372036854775810", 0, false},
		{"18446744073709551615", 0, false}, {"-18446744073709551615", 0, false},
		{"18446744073709551616", 0, false}, {"-18446744073709551616", 0, false},
		{"18446744073709551617", 0, false}, {"-18446744073709551617", 0, false},
		{"1" + strings.Repeat("0", 900), 0, false}, {"-1" + strings.Repeat("0", 900), 0, false},
	} {
		for _, x := range forms(number(t, c.text)) {
			if got, ok := integer.Int64(x); got != c.want || ok != c.ok {
				t.Errorf("Int64(%v) = %d, %v, want %d, %v", x, got, ok, c.want, c.ok)
			}
		}
	}
	for _, x := range edgesInAllForms() {
		want, wantOk := int64(0), toBig(x).IsInt64()
		if wantOk {
			want = toBig(x).Int64()
		}
		if got, ok := integer.Int64(x); got != want || ok != wantOk {
			t.Errorf("Int64(%v) = %d, %v, want %d, %v", x, got, ok, want, wantOk)
		}
	}
}

func TestCmpAndSign(t *testing.T) {
	for _, c := range []struct {
		a, b api.Int
		want int
	}{
		{api.Int{}, api.Int{Neg: true}, 0}, {api.Int{Neg: true, Mag: "\x00"}, api.Int{}, 0}, {api.Int{Neg: true}, api.Int{Mag: "\x01"}, -1},
		{api.Int{Neg: true, Mag: "\x01"}, api.Int{Neg: true}, -1}, {api.Int{Neg: true, Mag: "\x02"}, api.Int{Neg: true, Mag: "\x03"}, 1},
		{api.Int{Neg: true, Mag: "\x00\x01"}, api.Int{Neg: true, Mag: "\xff\x00"}, -1}, {api.Int{Mag: "\x00\x01"}, api.Int{Mag: "\xff\x00"}, 1},
		{api.Int{Neg: true, Mag: "\xff\xff"}, api.Int{Mag: "\x01"}, -1}, {api.Int{Mag: "\x01"}, api.Int{Neg: true, Mag: "\xff\xff"}, 1},
		{api.Int{Neg: true, Mag: "\x05\x00"}, api.Int{Neg: true, Mag: "\x05"}, 0}, {api.Int{Mag: "\x05"}, api.Int{Neg: true, Mag: "\x05"}, 1},
	} {
		if got := integer.Cmp(c.a, c.b); got != c.want {
			t.Errorf("Cmp(%v, %v) = %d, want %d", c.a, c.b, got, c.want)
		}
	}
	pairs(func(a, b api.Int) {
		if got, want := integer.Cmp(a, b), toBig(a).Cmp(toBig(b)); got != want {
			t.Fatalf("Cmp(%v, %v) = %d, want %d", a, b, got, want)
		}
		if got, want := integer.Sign(a), toBig(a).Sign(); got != want || got != integer.Cmp(a, api.Int{}) {
			t.Fatalf("Sign(%v) = %d, want %d", a, got, want)
		}
	})
}

func TestSumsAndProducts(t *testing.T) {
	for _, c := range [][5]int64{
		{0, 0, 0, 0, 0}, {5, -5, 0, 10, -25}, {-5, 5, 0, -10, -25}, {-1, 255, 254, -256, -255}, {1, 255, 256, -254, 255},
		{-1, -255, -256, 254, 255}, {3, -7, -4, 10, -21}, {7, -3, 4, 10, -21}, {-3, 0, -3, -3, 0}, {0, -3, -3, 3, 0},
	} {
		a, b := integer.FromInt64(c[0]), integer.FromInt64(c[1])
		sum, diff, product := integer.FromInt64(c[2]), integer.FromInt64(c[3]), integer.FromInt64(c[4])
		if integer.Add(a, b) != sum || integer.Sub(a, b) != diff || integer.Mul(a, b) != product {
			t.Errorf("%d and %d: %v, %v, %v", c[0], c[1], integer.Add(a, b), integer.Sub(a, b), integer.Mul(a, b))
		}
	}
	pairs(func(a, b api.Int) {
		x, y := toBig(a), toBig(b)
		if got, want := integer.Add(a, b), fromBig(new(big.Int).Add(x, y)); got != want {
			t.Fatalf("Add(%v, %v) = %v, want %v", a, b, got, want)
		}
		if got, want := integer.Sub(a, b), fromBig(new(big.Int).Sub(x, y)); got != want {
			t.Fatalf("Sub(%v, %v) = %v, want %v", a, b, got, want)
		}
		if got, want := integer.Mul(a, b), fromBig(new(big.Int).Mul(x, y)); got != want {
			t.Fatalf("Mul(%v, %v) = %v, want %v", a, b, got, want)
		}
		if got, want := integer.Neg(a), fromBig(new(big.Int).Neg(x)); got != want {
			t.Fatalf("Neg(%v) = %v, want %v", a, got, want)
		}
	})
}

// checkDiv compares the Euclidean quotient and remainder of a by b with those of math/big.
func checkDiv(t *testing.T, a, b api.Int) {
	t.Helper()
	var wantQ, wantR api.Int
	wantOk := toBig(b).Sign() != 0
	if wantOk {
		q, r := new(big.Int).DivMod(toBig(a), toBig(b), new(big.Int))
		wantQ, wantR = fromBig(q), fromBig(r)
	}
	if q, r, ok := integer.Div(a, b); q != wantQ || r != wantR || ok != wantOk {
		t.Fatalf("Div(%v, %v) = %v, %v, %v, want %v, %v, %v", a, b, q, r, ok, wantQ, wantR, wantOk)
	}
}

func TestDiv(t *testing.T) {
	for _, c := range [][4]int64{
		{7, 2, 3, 1}, {7, -2, -3, 1}, {-7, 2, -4, 1}, {-7, -2, 4, 1}, {6, 3, 2, 0}, {6, -3, -2, 0}, {-6, 3, -2, 0}, {-6, -3, 2, 0},
		{1, 3, 0, 1}, {1, -3, 0, 1}, {-1, 3, -1, 2}, {-1, -3, 1, 2}, {0, 3, 0, 0}, {0, -3, 0, 0}, {5, 1, 5, 0}, {-5, -1, 5, 0},
		{-256, 257, -1, 1}, {-257, 256, -2, 255}, {-65536, -255, 258, 254},
		{math.MinInt64, math.MaxInt64, -2, math.MaxInt64 - 1}, {math.MaxInt64, math.MinInt64, 0, math.MaxInt64},
	} {
		for _, a := range forms(integer.FromInt64(c[0])) {
			for _, b := range forms(integer.FromInt64(c[1])) {
				if q, r, ok := integer.Div(a, b); !ok || q != integer.FromInt64(c[2]) || r != integer.FromInt64(c[3]) {
					t.Errorf("Div(%v, %v) = %v, %v, %v, want %d, %d", a, b, q, r, ok, c[2], c[3])
				}
			}
		}
	}
	pairs(func(a, b api.Int) { checkDiv(t, a, b) })
}

func TestDivByZero(t *testing.T) {
	for _, a := range append(edgesInAllForms(), api.Int{Neg: true, Mag: strings.Repeat("\xff", 3000)}) {
		for _, b := range forms(api.Int{}) {
			if q, r, ok := integer.Div(a, b); ok || q != (api.Int{}) || r != (api.Int{}) {
				t.Errorf("Div(%v, %v) = %v, %v, %v", a, b, q, r, ok)
			}
		}
	}
}

func TestGcd(t *testing.T) {
	if got := integer.Gcd(); got != (api.Int{}) {
		t.Errorf("Gcd() = %v", got)
	}
	for _, c := range []struct {
		list []int64
		want int64
	}{
		{[]int64{0}, 0}, {[]int64{7}, 7}, {[]int64{-7}, 7}, {[]int64{0, 0}, 0}, {[]int64{0, 0, 0}, 0}, {[]int64{0, -5}, 5}, {[]int64{-5, 0}, 5},
		{[]int64{12, 18}, 6}, {[]int64{12, -18, 0}, 6}, {[]int64{-12, -18}, 6}, {[]int64{-4, -4, -4}, 4}, {[]int64{6, 10, 15}, 1},
		{[]int64{0, 0, -8, 0, 12, 0}, 4}, {[]int64{1, 0}, 1}, {[]int64{-1, 100, 1000}, 1}, {[]int64{30, 42, 70, 105}, 1},
		{[]int64{60, 84, 140, 210}, 2}, {[]int64{math.MinInt64, 1 << 40}, 1 << 40},
	} {
		list := make([]api.Int, len(c.list))
		for i := range list {
			list[i] = forms(integer.FromInt64(c.list[i]))[i%3]
		}
		given := slices.Clone(list)
		if got := integer.Gcd(list...); got != integer.FromInt64(c.want) {
			t.Errorf("Gcd of %v = %v, want %d", c.list, got, c.want)
		}
		if !slices.Equal(list, given) {
			t.Errorf("Gcd changed its arguments %v to %v", given, list)
		}
	}
	for _, x := range edgesInAllForms() {
		if got, want := integer.Gcd(x), fromBig(new(big.Int).Abs(toBig(x))); got != want {
			t.Errorf("Gcd(%v) = %v, want %v", x, got, want)
		}
	}
	pairs(func(a, b api.Int) {
		if got, want := integer.Gcd(a, b), fromBig(new(big.Int).GCD(nil, nil, toBig(a), toBig(b))); got != want {
			t.Fatalf("Gcd(%v, %v) = %v, want %v", a, b, got, want)
		}
	})
}

func TestGcdOfMany(t *testing.T) {
	r := rand.New(rand.NewSource(4))
	for count := range 200 {
		common := random(r, 6)
		list := make([]api.Int, count)
		want := new(big.Int)
		for i := range list {
			list[i] = integer.Mul(common, random(r, 6))
			want.GCD(nil, nil, want, toBig(list[i]))
		}
		if got := integer.Gcd(list...); got != fromBig(want) {
			t.Fatalf("Gcd of %v = %v, want %v", list, got, want)
		}
	}
}

// TestGcdOfEveryPosition has, at each position in turn, the only argument that lowers the greatest common divisor.
func TestGcdOfEveryPosition(t *testing.T) {
	list := make([]api.Int, 300)
	for i := range list {
		list[i] = integer.FromInt64(-12)
	}
	for i := range list {
		changed := slices.Clone(list)
		changed[i] = integer.FromInt64(18)
		if got := integer.Gcd(changed...); got != integer.FromInt64(6) {
			t.Fatalf("Gcd of 18 at position %d = %v, want 6", i, got)
		}
	}
}

func TestFormatAndParse(t *testing.T) {
	for text, want := range map[string]api.Int{
		"0": {}, "7": {Mag: "\x07"}, "-1": {Neg: true, Mag: "\x01"}, "256": {Mag: "\x00\x01"}, "-1000": {Neg: true, Mag: "\xe8\x03"},
		"9223372036854775807": integer.FromInt64(math.MaxInt64), "-9223372036854775808": integer.FromInt64(math.MinInt64),
		"18446744073709551616": {Mag: "\x00\x00\x00\x00\x00\x00\x00\x00\x01"},
	} {
		for _, x := range forms(want) {
			if got := integer.Format(x); got != text {
				t.Errorf("Format(%v) = %q, want %q", x, got, text)
			}
		}
		if got, ok := integer.Parse(text); got != want || !ok {
			t.Errorf("Parse(%q) = %v, %v, want %v", text, got, ok, want)
		}
	}
}

func TestParseRefuses(t *testing.T) {
	for _, s := range []string{
		"", "-", "--", "-0", "--0", "00", "-00", "01", "-01", "007", "-007", "+", "+0", "+1", "-+1", "+-1", "--1", "---1", "1-", "-1-", "1-1",
		"1a", "a1", "-a", "-1a", "0x10", "-0x10", " 1", "- 1", " -1", "1 ", "-1 ", "1 2", "1_000", "-1,000", "1.0", "-1.0", "1e3", "1/2", "/", "-:",
		"\x00", "-\x00", "1\x00", "\x00-1", "1\n", "\xff", "\u22121", "\u0661", "-\uff11", "0-1", "-0" + strings.Repeat("9", 50),
		"-" + strings.Repeat("0", 50), "-" + strings.Repeat("1", 50) + "x", strings.Repeat("-", 50), strings.Repeat("1", 50) + "-" + strings.Repeat("1", 50),
	} {
		if got, ok := integer.Parse(s); got != (api.Int{}) || ok {
			t.Errorf("Parse(%q) = %v, %v, want false", s, got, ok)
		}
	}
	for b := range 256 {
		c, digit := string([]byte{byte(b)}), b >= '0' && b <= '9'
		for s, want := range map[string]bool{
			c: digit, "-" + c: digit && c != "0", "1" + c: digit, "-1" + c: digit, "1" + c + "1": digit, c + "1": digit && c != "0" || c == "-",
		} {
			if got, ok := integer.Parse(s); ok != want || !ok && got != (api.Int{}) {
				t.Errorf("Parse(%q) = %v, %v", s, got, ok)
			}
		}
	}
}

// TestForms checks that results are canonical and the same for all forms of the arguments.
func TestForms(t *testing.T) {
	results := func(a, b api.Int) []api.Int {
		q, r, _ := integer.Div(a, b)
		return []api.Int{integer.Normalize(a), integer.Neg(a), integer.Add(a, b), integer.Sub(a, b), integer.Mul(a, b), q, r, integer.Gcd(a), integer.Gcd(a, b)}
	}
	for _, x := range edges() {
		for _, y := range edges() {
			want := results(x, y)
			for _, z := range want {
				if strings.HasSuffix(z.Mag, "\x00") || z.Neg && z.Mag == "" {
					t.Fatalf("%v and %v: %v is not in canonical form", x, y, z)
				}
			}
			for _, a := range forms(x) {
				for _, b := range forms(y) {
					if got := results(a, b); !slices.Equal(got, want) {
						t.Fatalf("%v and %v: %v, want %v", a, b, got, want)
					}
				}
			}
		}
	}
}

// P2.2

func TestRing(t *testing.T) {
	add, mul := integer.Add, integer.Mul
	triples(func(a, b, c api.Int) {
		if add(a, b) != add(b, a) || mul(a, b) != mul(b, a) {
			t.Fatalf("not commutative: %v %v", a, b)
		}
		if add(add(a, b), c) != add(a, add(b, c)) || mul(mul(a, b), c) != mul(a, mul(b, c)) {
			t.Fatalf("not associative: %v %v %v", a, b, c)
		}
		if mul(a, add(b, c)) != add(mul(a, b), mul(a, c)) {
			t.Fatalf("not distributive: %v %v %v", a, b, c)
		}
		if integer.Sub(add(a, b), b) != integer.Normalize(a) || add(integer.Sub(a, b), b) != integer.Normalize(a) {
			t.Fatalf("Sub does not invert Add: %v %v", a, b)
		}
	})
}

// P2.3

func TestOrder(t *testing.T) {
	cmp := integer.Cmp
	triples(func(a, b, c api.Int) {
		if cmp(a, b) != -cmp(b, a) || (cmp(a, b) == 0) != (integer.Normalize(a) == integer.Normalize(b)) {
			t.Fatalf("not antisymmetric: %v %v", a, b)
		}
		if cmp(a, b) <= 0 && cmp(b, c) <= 0 && cmp(a, c) > 0 {
			t.Fatalf("not transitive: %v %v %v", a, b, c)
		}
		if cmp(integer.Add(a, c), integer.Add(b, c)) != cmp(a, b) {
			t.Fatalf("not preserved by addition: %v %v %v", a, b, c)
		}
	})
}

func TestDivLaw(t *testing.T) {
	pairs(func(a, b api.Int) {
		q, r, ok := integer.Div(a, b)
		if ok != (integer.Sign(b) != 0) {
			t.Fatalf("Div(%v, %v) reports %v", a, b, ok)
		}
		if ok && integer.Add(integer.Mul(q, b), r) != integer.Normalize(a) {
			t.Fatalf("Div(%v, %v) = %v, %v", a, b, q, r)
		}
		if ok && (integer.Sign(r) < 0 || integer.Cmp(r, integer.Gcd(b)) >= 0) {
			t.Fatalf("Div(%v, %v) has the remainder %v", a, b, r)
		}
	})
}

// P2.4

// checkText checks that Format(x) is the decimal text of x and that Parse restores x.
func checkText(t *testing.T, x api.Int) {
	t.Helper()
	text := integer.Format(x)
	if want := toBig(x).String(); text != want {
		t.Fatalf("Format(%v) = %q, want %q", x, text, want)
	}
	if got, ok := integer.Parse(text); got != integer.Normalize(x) || !ok {
		t.Fatalf("Parse(%q) = %v, %v, want %v", text, got, ok, integer.Normalize(x))
	}
}

func TestTextRoundTrip(t *testing.T) {
	for _, x := range edgesInAllForms() {
		checkText(t, x)
	}
	r := rand.New(rand.NewSource(5))
	for range 3000 {
		checkText(t, random(r, 60))
	}
	for range 20 {
		checkText(t, random(r, 3000))
	}
}

func TestInt64RoundTrip(t *testing.T) {
	words := []int64{0, 1, -1, 127, 128, -128, -129, 255, 256, -255, -256, math.MaxInt32, math.MinInt32, 1 << 32, -1 << 32,
		math.MaxInt64, math.MaxInt64 - 1, math.MinInt64, math.MinInt64 + 1}
	r := rand.New(rand.NewSource(6))
	for range 2000 {
		words = append(words, int64(r.Uint64())>>r.Intn(64))
	}
	for _, n := range words {
		for _, x := range forms(integer.FromInt64(n)) {
			if got, ok := integer.Int64(x); got != n || !ok {
				t.Errorf("Int64(%v) = %d, %v, want %d", x, got, ok, n)
			}
		}
	}
}

func FuzzArithmetic(f *testing.F) {
	f.Add(false, "", true, "\x00")
	f.Add(true, "\xff\xff\x00", false, "\x01")
	f.Add(true, "\x00\x00\x00\x00\x00\x00\x00\x80", true, "\x00\x00\x00\x80\x00")
	f.Add(true, "12345678901234567890", false, "1000000007")
	f.Fuzz(func(t *testing.T, aNeg bool, aMag string, bNeg bool, bMag string) {
		a, b := api.Int{Neg: aNeg, Mag: aMag}, api.Int{Neg: bNeg, Mag: bMag}
		x, y := toBig(a), toBig(b)
		if integer.Cmp(a, b) != x.Cmp(y) || integer.Add(a, b) != fromBig(new(big.Int).Add(x, y)) || integer.Sub(a, b) != fromBig(new(big.Int).Sub(x, y)) {
			t.Errorf("Cmp, Add or Sub of %v and %v", a, b)
		}
		if integer.Mul(a, b) != fromBig(new(big.Int).Mul(x, y)) || integer.Gcd(a, b) != fromBig(new(big.Int).GCD(nil, nil, x, y)) {
			t.Errorf("Mul or Gcd of %v and %v", a, b)
		}
		checkDiv(t, a, b)
		checkText(t, a)
		if m, ok := integer.Parse(aMag); ok && integer.Format(m) != aMag || !ok && m != (api.Int{}) {
			t.Errorf("Parse(%q) = %v, %v", aMag, m, ok)
		}
	})
}
