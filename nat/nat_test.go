package nat_test

import (
	"math"
	"math/big"
	"math/rand"
	"slices"
	"strings"
	"testing"

	"voussoir/nat"
)

// toBig returns the number that a magnitude represents.
func toBig(a string) *big.Int {
	bytes := []byte(a)
	slices.Reverse(bytes)
	return new(big.Int).SetBytes(bytes)
}

// fromBig returns the canonical magnitude of n.
func fromBig(n *big.Int) string {
	bytes := n.Bytes()
	slices.Reverse(bytes)
	return string(bytes)
}

// power returns the magnitude of 2^n + add.
func power(n uint, add int64) string {
	x := new(big.Int).Lsh(big.NewInt(1), n)
	return fromBig(x.Add(x, big.NewInt(add)))
}

// edges are magnitudes around the sizes where carries and borrows occur, some of them with trailing zero bytes.
func edges() []string {
	list := []string{"", "\x00", "\x00\x00\x00\x00\x00\x00\x00\x00\x00", "\x01", "\x01\x00", "\x02", "\x07\x00\x00\x00\x00", "\xfe"}
	for _, n := range []uint{8, 16, 31, 32, 33, 63, 64, 65, 96, 128, 160, 1000} {
		list = append(list, power(n, -1), power(n, 0), power(n, 0)+"\x00\x00", power(n, 1))
	}
	return list
}

// limbBytes are groups of four bytes; numbers made of them reach the rare cases of long division.
var limbBytes = []string{
	"\x00\x00\x00\x00", "\x01\x00\x00\x00", "\xff\xff\xff\x7f", "\x00\x00\x00\x80", "\x01\x00\x00\x80", "\xfe\xff\xff\xff", "\xff\xff\xff\xff",
}

// random returns a magnitude of up to size bytes, in which extreme bytes are frequent.
func random(r *rand.Rand, size int) string {
	var a strings.Builder
	for n := r.Intn(size + 1); a.Len() < n; {
		switch r.Intn(3) {
		case 0:
			a.WriteString(limbBytes[r.Intn(len(limbBytes))])
		case 1:
			a.WriteByte([]byte{0, 1, 0x7f, 0x80, 0xff}[r.Intn(5)])
		default:
			a.WriteByte(byte(r.Intn(256)))
		}
	}
	return a.String()
}

// pairs calls check with pairs of edge cases and of random numbers, up to many bytes.
func pairs(check func(a, b string)) {
	for _, a := range edges() {
		for _, b := range edges() {
			check(a, b)
		}
	}
	r := rand.New(rand.NewSource(1))
	for range 6000 {
		check(random(r, 40), random(r, 40))
	}
	for range 60 {
		check(random(r, 1500), random(r, 1500))
		check(random(r, 1500), random(r, 12))
		check(random(r, 12), random(r, 1500))
	}
}

// P1.1

func TestNormalize(t *testing.T) {
	for _, c := range [][2]string{
		{"", ""}, {"\x00", ""}, {"\x00\x00\x00\x00\x00", ""}, {"\x01", "\x01"}, {"\x01\x00", "\x01"}, {"\x00\x01", "\x00\x01"},
		{"a\x00b\x00\x00", "a\x00b"}, {"\xff\x00", "\xff"}, {strings.Repeat("\x00", 3000), ""},
		{strings.Repeat("\x07", 3000) + strings.Repeat("\x00", 3000), strings.Repeat("\x07", 3000)},
	} {
		if got := nat.Normalize(c[0]); got != c[1] {
			t.Errorf("Normalize(%q) = %q, want %q", c[0], got, c[1])
		}
	}
}

func TestCmp(t *testing.T) {
	for _, c := range []struct {
		a, b string
		want int
	}{
		{"", "", 0}, {"", "\x00\x00", 0}, {"\x05\x00", "\x05", 0}, {"\x05", "\x05\x00\x00", 0}, {"", "\x01", -1}, {"\x01", "", 1},
		{"\x01\x02", "\x02\x01", 1}, {"\x02\x01", "\x01\x02", -1}, {"\xff", "\x00\x01", -1}, {"\x00\x01", "\xff\x00\x00", 1},
		{"\x7f", "\x80", -1}, {"\x01\x05", "\x02\x05", -1},
	} {
		if got := nat.Cmp(c.a, c.b); got != c.want {
			t.Errorf("Cmp(%q, %q) = %d, want %d", c.a, c.b, got, c.want)
		}
	}
	pairs(func(a, b string) {
		if got, want := nat.Cmp(a, b), toBig(a).Cmp(toBig(b)); got != want {
			t.Fatalf("Cmp(%q, %q) = %d, want %d", a, b, got, want)
		}
	})
}

func TestAdd(t *testing.T) {
	for _, c := range [][3]string{
		{"", "", ""}, {"\x00\x00", "\x00", ""}, {"\xff", "\x01", "\x00\x01"}, {"\x01", "\xff\x00\x00", "\x00\x01"},
		{"\x01\x00\x00", "\x02\x00", "\x03"}, {"\xff\xff\xff\xff", "\xff\xff\xff\xff", "\xfe\xff\xff\xff\x01"}, {"", "\x09\x00", "\x09"},
	} {
		if got := nat.Add(c[0], c[1]); got != c[2] {
			t.Errorf("Add(%q, %q) = %q, want %q", c[0], c[1], got, c[2])
		}
	}
	pairs(func(a, b string) {
		if got, want := nat.Add(a, b), fromBig(new(big.Int).Add(toBig(a), toBig(b))); got != want {
			t.Fatalf("Add(%q, %q) = %q, want %q", a, b, got, want)
		}
	})
}

func TestSub(t *testing.T) {
	for _, c := range []struct {
		a, b, want string
		ok         bool
	}{
		{"", "", "", true}, {"", "\x00\x00", "", true}, {"\x00", "", "", true}, {"\x05", "\x03", "\x02", true}, {"\x03", "\x05", "", false},
		{"", "\x01", "", false}, {"\x05\x00\x00", "\x05", "", true}, {"\x05", "\x05\x00\x00", "", true}, {"\x00\x01", "\x01", "\xff", true},
		{"\x00\x00\x01", "\x01", "\xff\xff", true}, {"\x00\x00\x01", "\xff\xff\x00", "\x01", true}, {"\xff", "\x00\x01", "", false},
		{"\x00\x00\x00\x01", "\x00\xff\xff", "\x00\x01", true},
	} {
		if got, ok := nat.Sub(c.a, c.b); got != c.want || ok != c.ok {
			t.Errorf("Sub(%q, %q) = %q, %v", c.a, c.b, got, ok)
		}
	}
	pairs(func(a, b string) {
		want, wantOk := "", toBig(a).Cmp(toBig(b)) >= 0
		if wantOk {
			want = fromBig(new(big.Int).Sub(toBig(a), toBig(b)))
		}
		if got, ok := nat.Sub(a, b); got != want || ok != wantOk {
			t.Fatalf("Sub(%q, %q) = %q, %v, want %q", a, b, got, ok, want)
		}
	})
}

func TestMul(t *testing.T) {
	for _, c := range [][3]string{
		{"", "", ""}, {"", "\x05", ""}, {"\x05", "\x00", ""}, {"\x01\x00", "\x07\x00\x00", "\x07"}, {"\xff", "\xff", "\x01\xfe"},
		{"\x00\x01", "\x00\x01", "\x00\x00\x01"}, {"\xff\xff\xff\xff", "\xff\xff\xff\xff", "\x01\x00\x00\x00\xfe\xff\xff\xff"},
	} {
		if got := nat.Mul(c[0], c[1]); got != c[2] {
			t.Errorf("Mul(%q, %q) = %q, want %q", c[0], c[1], got, c[2])
		}
	}
	pairs(func(a, b string) {
		if got, want := nat.Mul(a, b), fromBig(new(big.Int).Mul(toBig(a), toBig(b))); got != want {
			t.Fatalf("Mul(%q, %q) = %q, want %q", a, b, got, want)
		}
	})
}

// P1.2

// checkDiv compares the quotient and the remainder of a by b with those of math/big.
func checkDiv(t *testing.T, a, b string) {
	t.Helper()
	wantQ, wantR, wantOk := "", "", toBig(b).Sign() != 0
	if wantOk {
		q, r := new(big.Int).QuoRem(toBig(a), toBig(b), new(big.Int))
		wantQ, wantR = fromBig(q), fromBig(r)
	}
	if q, r, ok := nat.Div(a, b); q != wantQ || r != wantR || ok != wantOk {
		t.Fatalf("Div(%q, %q) = %q, %q, %v, want %q, %q", a, b, q, r, ok, wantQ, wantR)
	}
}

func TestDiv(t *testing.T) {
	for _, c := range []struct {
		a, b, q, r string
		ok         bool
	}{
		{"\xe8\x03", "\x07", "\x8e", "\x06", true}, {"", "\x07", "", "", true}, {"\x00\x00", "\x07\x00", "", "", true},
		{"\x05", "\x09", "", "\x05", true}, {"\x05\x00\x00", "\x00\x09\x00", "", "\x05", true}, {"\x05\x00", "\x05\x00\x00", "\x01", "", true},
		{"\x05", "", "", "", false}, {"\x05", "\x00\x00\x00", "", "", false}, {"", "", "", "", false}, {"\x00", "\x00", "", "", false},
		{strings.Repeat("\xff", 100), "", "", "", false},
	} {
		if q, r, ok := nat.Div(c.a, c.b); q != c.q || r != c.r || ok != c.ok {
			t.Errorf("Div(%q, %q) = %q, %q, %v", c.a, c.b, q, r, ok)
		}
	}
	pairs(func(a, b string) { checkDiv(t, a, b) })
}

// TestDivEstimates divides numbers for which the first estimate of a digit of the quotient is too large, whether
// digits have one, two, four or eight bytes.
func TestDivEstimates(t *testing.T) {
	for _, c := range [][2]string{
		{"\x03\x00\x80", "\x01\x20"}, {"\x03\x00\x00\x80", "\x01\x00\x20"}, {"\x00\xfe\x80", "\xff\x80"},
		{"\x00\x00\xfe\xff\x00\x80", "\xff\xff\x00\x80"}, {"\x00\x00\x00\x00\x00\x80\xff\x7f", "\x01\x00\x00\x00\x00\x80"},
	} {
		for _, width := range []int{1, 2, 4, 8} {
			checkDiv(t, widen(c[0], width), widen(c[1], width))
		}
	}
	var digits func(count int) []string
	digits = func(count int) []string {
		if count == 0 {
			return []string{""}
		}
		var list []string
		for _, rest := range digits(count - 1) {
			for _, limb := range limbBytes {
				list = append(list, rest+limb)
			}
		}
		return list
	}
	for _, b := range digits(2) {
		for _, a := range digits(3) {
			checkDiv(t, a, b)
		}
		for _, low := range limbBytes {
			// Dividends just below and above a multiple of the divisor.
			product := nat.Mul(low+b, "\xff\xff\xff\xff\xff\xff\xff\xff")
			checkDiv(t, product, low+b)
			checkDiv(t, nat.Add(product, "\x01"), low+b)
			if less, ok := nat.Sub(product, "\x01"); ok {
				checkDiv(t, less, low+b)
			}
		}
	}
}

// widen returns a with every byte in the highest place of a digit of width bytes.
func widen(a string, width int) string {
	wide := ""
	for i := range len(a) {
		wide += strings.Repeat("\x00", width-1) + a[i:i+1]
	}
	return wide
}

func TestGcd(t *testing.T) {
	for _, c := range [][3]string{
		{"\x0c", "\x12", "\x06"}, {"", "", ""}, {"\x00\x00", "\x00", ""}, {"", "\x05", "\x05"}, {"\x05", "", "\x05"},
		{"\x00", "\x05\x00\x00", "\x05"}, {"\x05\x00\x00", "\x00", "\x05"}, {"\x11", "\x0d", "\x01"}, {"\x05\x00", "\x05\x00\x00", "\x05"},
		{power(200, 0), "", power(200, 0)}, {"\x00", power(200, 0) + "\x00", power(200, 0)}, {power(300, 0), power(200, 0), power(200, 0)},
		{power(200, 0), power(200, 1), "\x01"}, {power(200, 5), power(200, 5), power(200, 5)}, {power(70, 0), "\x00\x04", "\x00\x04"},
	} {
		if got := nat.Gcd(c[0], c[1]); got != c[2] {
			t.Errorf("Gcd(%q, %q) = %q, want %q", c[0], c[1], got, c[2])
		}
	}
	check := func(a, b string) {
		if got, want := nat.Gcd(a, b), fromBig(new(big.Int).GCD(nil, nil, toBig(a), toBig(b))); got != want {
			t.Fatalf("Gcd(%q, %q) = %q, want %q", a, b, got, want)
		}
	}
	pairs(check)
	r := rand.New(rand.NewSource(2))
	for range 2000 {
		common := random(r, 20)
		check(nat.Mul(common, random(r, 20)), nat.Mul(common, random(r, 20)))
	}
}

// P1.3

func TestUint64(t *testing.T) {
	words := []uint64{0, 1, 9, 10, 255, 256, 65535, 65536, 1e9 - 1, 1e9, math.MaxInt64, 1 << 63, math.MaxUint64 - 1, math.MaxUint64}
	r := rand.New(rand.NewSource(3))
	for range 1000 {
		words = append(words, r.Uint64()>>r.Intn(64))
	}
	for _, n := range words {
		want := fromBig(new(big.Int).SetUint64(n))
		if got := nat.FromUint64(n); got != want {
			t.Errorf("FromUint64(%d) = %q, want %q", n, got, want)
		}
		for _, zeros := range []string{"", "\x00", strings.Repeat("\x00", 20)} {
			if got, ok := nat.Uint64(want + zeros); got != n || !ok {
				t.Errorf("Uint64(%q) = %d, %v, want %d", want+zeros, got, ok, n)
			}
		}
	}
	for _, a := range []string{power(64, 0), power(64, 1), power(64, 0) + "\x00", power(72, -1), power(1000, 0), strings.Repeat("\xff", 3000)} {
		if got, ok := nat.Uint64(a); got != 0 || ok {
			t.Errorf("Uint64(%q) = %d, %v, want 0, false", a, got, ok)
		}
	}
}

// checkText checks that Format(a) is the decimal text of a and that Parse accepts it.
func checkText(t *testing.T, a string) {
	t.Helper()
	want := toBig(a).String()
	if got := nat.Format(a); got != want {
		t.Fatalf("Format(%q) = %q, want %q", a, got, want)
	}
	if got, ok := nat.Parse(want); got != nat.Normalize(a) || !ok {
		t.Fatalf("Parse(%q) = %q, %v, want %q", want, got, ok, nat.Normalize(a))
	}
}

func TestText(t *testing.T) {
	for _, c := range [][2]string{{"", "0"}, {"\x00\x00", "0"}, {"\x07\x00", "7"}, {"\x00\x01", "256"}, {"\xe8\x03", "1000"}} {
		if got := nat.Format(c[0]); got != c[1] {
			t.Errorf("Format(%q) = %q, want %q", c[0], got, c[1])
		}
		if got, ok := nat.Parse(c[1]); got != nat.Normalize(c[0]) || !ok {
			t.Errorf("Parse(%q) = %q, %v, want %q", c[1], got, ok, nat.Normalize(c[0]))
		}
	}
	for _, a := range edges() {
		checkText(t, a)
	}
	ten := big.NewInt(10)
	for n := range int64(60) {
		x := new(big.Int).Exp(ten, big.NewInt(n), nil)
		checkText(t, fromBig(x))
		checkText(t, fromBig(new(big.Int).Sub(x, big.NewInt(1))))
		checkText(t, fromBig(new(big.Int).Add(x, ten)))
	}
	r := rand.New(rand.NewSource(4))
	for range 3000 {
		checkText(t, random(r, 60))
	}
	for range 30 {
		checkText(t, random(r, 3000))
	}
}

func TestParseRefuses(t *testing.T) {
	for _, s := range []string{
		"", "00", "01", "007", "-0", "-1", "+1", "1a", "a1", "0x10", " 1", "1 ", "1 2", "1_000", "1,000", "1.0", "1e3", "1/2", "/", ":",
		"\x00", "1\x00", "\x001", "1\n", "\xff", "\xb9", "\u0661", "\uff11", "0" + strings.Repeat("9", 50), strings.Repeat("0", 50),
		strings.Repeat("1", 50) + "x", "x" + strings.Repeat("1", 50), strings.Repeat("1", 25) + "/" + strings.Repeat("1", 25),
	} {
		if got, ok := nat.Parse(s); got != "" || ok {
			t.Errorf("Parse(%q) = %q, %v, want false", s, got, ok)
		}
	}
	for b := range 256 {
		digit := b >= '0' && b <= '9'
		for _, s := range []string{string([]byte{byte(b)}), string([]byte{'1', byte(b)}), string([]byte{'1', byte(b), '1'})} {
			if got, ok := nat.Parse(s); ok != digit || !ok && got != "" {
				t.Errorf("Parse(%q) = %q, %v", s, got, ok)
			}
		}
	}
}

// P1.4

func TestLaws(t *testing.T) {
	check := func(a, b, c string) {
		if nat.Add(a, b) != nat.Add(b, a) || nat.Mul(a, b) != nat.Mul(b, a) {
			t.Fatalf("not commutative: %q %q", a, b)
		}
		if nat.Add(nat.Add(a, b), c) != nat.Add(a, nat.Add(b, c)) || nat.Mul(nat.Mul(a, b), c) != nat.Mul(a, nat.Mul(b, c)) {
			t.Fatalf("not associative: %q %q %q", a, b, c)
		}
		if nat.Mul(a, nat.Add(b, c)) != nat.Add(nat.Mul(a, b), nat.Mul(a, c)) {
			t.Fatalf("not distributive: %q %q %q", a, b, c)
		}
	}
	small := []string{"", "\x00", "\x01", "\xff\x00", "\x00\x01", power(32, -1), power(64, -1), power(64, 0), power(64, 1) + "\x00", power(129, -1)}
	for _, a := range small {
		for _, b := range small {
			for _, c := range small {
				check(a, b, c)
			}
		}
	}
	r := rand.New(rand.NewSource(5))
	for range 2000 {
		check(random(r, 40), random(r, 40), random(r, 40))
	}
	check(random(r, 1500), random(r, 1500), random(r, 1500))
}

func TestDivLaw(t *testing.T) {
	pairs(func(a, b string) {
		q, r, ok := nat.Div(a, b)
		if ok != (nat.Cmp(b, "") != 0) {
			t.Fatalf("Div(%q, %q) reports %v", a, b, ok)
		}
		if ok && (nat.Add(nat.Mul(q, b), r) != nat.Normalize(a) || nat.Cmp(r, b) >= 0) {
			t.Fatalf("Div(%q, %q) = %q, %q", a, b, q, r)
		}
	})
}

// Canonical form: equal results are the same string, whatever the form of the arguments.

func TestTrailingZeros(t *testing.T) {
	all := func(a, b string) []string {
		diff, _ := nat.Sub(a, b)
		q, r, _ := nat.Div(a, b)
		return []string{nat.Normalize(a), nat.Add(a, b), diff, nat.Mul(a, b), q, r, nat.Gcd(a, b)}
	}
	for _, a := range edges() {
		for _, b := range edges() {
			want := all(nat.Normalize(a), nat.Normalize(b))
			for _, zeros := range [][2]string{{"\x00", ""}, {"", "\x00"}, {"\x00\x00\x00\x00\x00", "\x00\x00"}} {
				if got := all(a+zeros[0], b+zeros[1]); !slices.Equal(got, want) {
					t.Fatalf("%q and %q with trailing zero bytes: %q, want %q", a, b, got, want)
				}
			}
			for _, x := range want {
				if strings.HasSuffix(x, "\x00") {
					t.Fatalf("%q and %q: %q is not in canonical form", a, b, x)
				}
			}
		}
	}
}

func FuzzArithmetic(f *testing.F) {
	f.Add("", "")
	f.Add("\xff\xff\x00", "\x01")
	f.Add("\x00\x00\x00\x00\x00\x00\x00\x00\x01", "\x00\x00\x00\x80\x00")
	f.Add("12345678901234567890", "1000000007")
	f.Fuzz(func(t *testing.T, a, b string) {
		x, y := toBig(a), toBig(b)
		if nat.Cmp(a, b) != x.Cmp(y) || nat.Add(a, b) != fromBig(new(big.Int).Add(x, y)) || nat.Mul(a, b) != fromBig(new(big.Int).Mul(x, y)) {
			t.Errorf("Cmp, Add or Mul of %q and %q", a, b)
		}
		if nat.Gcd(a, b) != fromBig(new(big.Int).GCD(nil, nil, x, y)) {
			t.Errorf("Gcd of %q and %q", a, b)
		}
		checkDiv(t, a, b)
		checkText(t, a)
		if m, ok := nat.Parse(a); ok && nat.Format(m) != a || !ok && m != "" {
			t.Errorf("Parse(%q) = %q, %v", a, m, ok)
		}
	})
}
