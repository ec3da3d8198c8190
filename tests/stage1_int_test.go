package tests

import (
	"math/big"
	"math/rand"
	"strings"
	"testing"

	"loop.example/g00007/impl"
)

// The signatures that the document gives: a change of one is no longer built.
var (
	_ func(string) bool                     = impl.IsInt
	_ func(string, string) string           = impl.IntAdd
	_ func(string, string) string           = impl.IntSub
	_ func(string, string) string           = impl.IntMul
	_ func(string, string) (string, string) = impl.IntDiv
	_ func(string, string) string           = impl.IntGcd
	_ func(string, string) int              = impl.IntCmp
	_ func(string, int) uint64              = impl.IntLow
	_ func(uint64) string                   = impl.IntOf
)

func nines(n int) string    { return strings.Repeat("9", n) }
func tenTo(n int) string    { return "1" + strings.Repeat("0", n) }
func minus(s string) string { return "-" + s }

// noInts are texts that are no int texts, each for another reason.
func noInts() []string {
	return []string{
		"", "-", "-0", "00", "007", "-01", "+1", "--1", "1-", "1.0", "1/2", "1e3", "12a", "a12", " 1", "1 ", "-  1", "1_000",
		"0x1", "1\x00", "\x00", "\xff", "1\n", "٣", "1٣", "/", ":", "1/", "1:",
		tenTo(impl.IntDigits), nines(impl.IntDigits + 1), minus(tenTo(impl.IntDigits)), "0" + nines(impl.IntDigits-1),
		nines(impl.IntDigits) + "x", nines(impl.IntDigits-1) + "x", strings.Repeat("-", impl.IntDigits),
	}
}

// edgeInts are numbers at the ends of digits, of machine words and of what is allowed.
func edgeInts() []string {
	out := []string{
		"0", "1", "2", "3", "7", "9", "10", "12", "18", "4294967295", "4294967296", "9223372036854775807", "9223372036854775808",
		"18446744073709551615", "18446744073709551616", "18446744073709551617", "340282366920938463463374607431768211456",
		"1000000000999999999", "500000000000000000", "499999999999999999999999999", "999999999000000000", "999999998999999999999999999",
	}
	for _, n := range []int{8, 9, 10, 17, 18, 19, 26, 27, 28, 36, 45, 90, 1249, 1250, impl.IntDigits - 1} {
		out = append(out, nines(n), tenTo(n), tenTo(n)[:n]+"1")
	}
	out = append(out, nines(impl.IntDigits), nines(impl.IntDigits-1)+"8", "5"+strings.Repeat("0", impl.IntDigits-1))
	for _, s := range out[1:] {
		out = append(out, minus(s))
	}
	return out
}

func bigOf(t *testing.T, s string) *big.Int {
	t.Helper()
	n, ok := new(big.Int).SetString(s, 10)
	if !ok {
		t.Fatalf("%q is no number", s)
	}
	return n
}

// intText is what the document asks for the number n.
func intText(n *big.Int) string {
	s := n.String()
	if len(strings.TrimPrefix(s, "-")) > impl.IntDigits {
		return ""
	}
	return s
}

func short(s string) string {
	if len(s) <= 60 {
		return s
	}
	return s[:25] + ".." + s[len(s)-25:]
}

// checkPair holds every operation on a and b against the library's numbers.
func checkPair(t *testing.T, a, b string) {
	t.Helper()
	x, y := bigOf(t, a), bigOf(t, b)
	say := func(what, got string, want *big.Int) {
		t.Helper()
		if got != intText(want) {
			t.Errorf("%s %s %s: %q, want %q", what, short(a), short(b), short(got), short(intText(want)))
		}
	}
	say("add", impl.IntAdd(a, b), new(big.Int).Add(x, y))
	say("sub", impl.IntSub(a, b), new(big.Int).Sub(x, y))
	say("mul", impl.IntMul(a, b), new(big.Int).Mul(x, y))
	say("gcd", impl.IntGcd(a, b), new(big.Int).GCD(nil, nil, new(big.Int).Abs(x), new(big.Int).Abs(y)))
	if got := impl.IntCmp(a, b); got != x.Cmp(y) {
		t.Errorf("cmp %s %s: %d, want %d", short(a), short(b), got, x.Cmp(y))
	}
	q, r := impl.IntDiv(a, b)
	if y.Sign() == 0 {
		if q != "" || r != "" {
			t.Errorf("div %s by 0: %q, %q", short(a), short(q), short(r))
		}
		return
	}
	// DivMod of the library is the division whose rest is never below 0.
	quotient, rest := new(big.Int).DivMod(x, y, new(big.Int))
	say("quotient", q, quotient)
	say("rest", r, rest)
}

func TestIntIsInt(t *testing.T) {
	for _, s := range edgeInts() {
		if !impl.IsInt(s) {
			t.Errorf("%s is an int text", short(s))
		}
	}
	for _, s := range noInts() {
		if impl.IsInt(s) {
			t.Errorf("%q is no int text", short(s))
		}
	}
	for c := range 256 {
		s := string([]byte{byte(c)})
		digit := c >= '0' && c <= '9'
		if impl.IsInt(s) != digit || impl.IsInt("1"+s) != digit || impl.IsInt(s+"1") != (digit && c != '0' || c == '-') {
			t.Errorf("byte %d", c)
		}
	}
}

func TestIntExamples(t *testing.T) {
	if got := impl.IntAdd("999", "1"); got != "1000" {
		t.Errorf("999 + 1: %q", got)
	}
	if got := impl.IntGcd("-12", "18"); got != "6" {
		t.Errorf("gcd of -12 and 18: %q", got)
	}
	if got := impl.IntLow("-1", 8); got != 255 {
		t.Errorf("-1 modulo 256: %d", got)
	}
	if impl.IntDigits != 2500 {
		t.Errorf("IntDigits: %d", impl.IntDigits)
	}
}

func TestIntDivSigns(t *testing.T) {
	cases := [][4]string{
		{"7", "2", "3", "1"}, {"-7", "2", "-4", "1"}, {"7", "-2", "-3", "1"}, {"-7", "-2", "4", "1"},
		{"6", "3", "2", "0"}, {"-6", "3", "-2", "0"}, {"6", "-3", "-2", "0"}, {"-6", "-3", "2", "0"},
		{"1", "5", "0", "1"}, {"-1", "5", "-1", "4"}, {"1", "-5", "0", "1"}, {"-1", "-5", "1", "4"},
		{"0", "5", "0", "0"}, {"0", "-5", "0", "0"}, {"-1", "1", "-1", "0"}, {"1", "-1", "-1", "0"},
		{"-1000000000", "1000000001", "-1", "1"}, {"-1", tenTo(2499), "-1", nines(2499)},
		{minus(nines(2500)), "-1", nines(2500), "0"}, {minus(nines(2500)), nines(2500), "-1", "0"},
		{minus(nines(2500)), "2", "-5" + strings.Repeat("0", 2499), "1"}, {tenTo(2499), nines(2500), "0", tenTo(2499)},
		{"5", "0", "", ""}, {"0", "0", "", ""}, {"-5", "0", "", ""}, {"5", "-0", "", ""},
	}
	for _, c := range cases {
		q, r := impl.IntDiv(c[0], c[1])
		if q != c[2] || r != c[3] {
			t.Errorf("%s by %s: %q, %q, want %q, %q", short(c[0]), short(c[1]), short(q), short(r), short(c[2]), short(c[3]))
		}
	}
}

func TestIntDigitLimit(t *testing.T) {
	most, root := nines(impl.IntDigits), tenTo(1250)
	cases := []struct{ what, got, want string }{
		{"most + 0", impl.IntAdd(most, "0"), most},
		{"most + 1", impl.IntAdd(most, "1"), ""},
		{"-most - 1", impl.IntSub(minus(most), "1"), ""},
		{"-most + -1", impl.IntAdd(minus(most), "-1"), ""},
		{"most - -1", impl.IntSub(most, "-1"), ""},
		{"most - most", impl.IntSub(most, most), "0"},
		{"most - -most", impl.IntSub(most, minus(most)), ""},
		{"one below most + 1", impl.IntAdd(nines(impl.IntDigits-1)+"8", "1"), most},
		{"most of one digit less, + 1", impl.IntAdd(nines(impl.IntDigits-1), "1"), tenTo(impl.IntDigits - 1)},
		{"most * 1", impl.IntMul(most, "1"), most},
		{"most * -1", impl.IntMul(most, "-1"), minus(most)},
		{"most * 0", impl.IntMul(most, "0"), "0"},
		{"-most * 0", impl.IntMul(minus(most), "0"), "0"},
		{"most * 2", impl.IntMul(most, "2"), ""},
		{"most * most", impl.IntMul(most, minus(most)), ""},
		{"10^1250 * 10^1249", impl.IntMul(root, root[:1250]), tenTo(impl.IntDigits - 1)},
		{"10^1250 * 10^1250", impl.IntMul(root, root), ""},
		{"10^1250 * -10^1250", impl.IntMul(root, minus(root)), ""},
		{"gcd of most and -most", impl.IntGcd(most, minus(most)), most},
		{"gcd of 0 and -most", impl.IntGcd("0", minus(most)), most},
	}
	for _, c := range cases {
		if c.got != c.want {
			t.Errorf("%s: %q, want %q", c.what, short(c.got), short(c.want))
		}
	}
}

func TestIntWrongTexts(t *testing.T) {
	for _, wrong := range noInts() {
		for _, good := range []string{"0", "1", "-7", wrong} {
			for _, p := range [][2]string{{wrong, good}, {good, wrong}} {
				a, b := p[0], p[1]
				if impl.IntAdd(a, b) != "" || impl.IntSub(a, b) != "" || impl.IntMul(a, b) != "" || impl.IntGcd(a, b) != "" {
					t.Errorf("a sum, difference, product or divisor of %q and %q", short(a), short(b))
				}
				if q, r := impl.IntDiv(a, b); q != "" || r != "" {
					t.Errorf("%q by %q: %q, %q", short(a), short(b), q, r)
				}
				if got := impl.IntCmp(a, b); got != -2 {
					t.Errorf("cmp of %q and %q: %d", short(a), short(b), got)
				}
			}
		}
		if got := impl.IntLow(wrong, 8); got != 0 {
			t.Errorf("low bits of %q: %d", short(wrong), got)
		}
	}
}

func TestIntEdgePairs(t *testing.T) {
	edges := edgeInts()
	for _, a := range edges {
		for _, b := range edges {
			checkPair(t, a, b)
		}
	}
}

// drawInt draws a number of up to n digits in runs of 0, of 9 and of mixed digits: carries and wrong guesses of a
// quotient come from such runs.
func drawInt(r *rand.Rand, n int) string {
	size := 1 + r.Intn(n)
	digits := make([]byte, 0, size)
	for len(digits) < size {
		kind := r.Intn(3)
		for run := 1 + r.Intn(20); run > 0 && len(digits) < size; run-- {
			digits = append(digits, [3]byte{'0', '9', '0' + byte(r.Intn(10))}[kind])
		}
	}
	s := strings.TrimLeft(string(digits), "0")
	if s == "" {
		return "0"
	}
	if r.Intn(2) == 0 {
		return minus(s)
	}
	return s
}

func TestIntDrawnPairs(t *testing.T) {
	r := rand.New(rand.NewSource(1))
	for range 20000 {
		checkPair(t, drawInt(r, 80), drawInt(r, 40))
	}
	for range 300 {
		checkPair(t, drawInt(r, impl.IntDigits), drawInt(r, impl.IntDigits))
	}
}

// Quotients where the top limbs' guess is one too great, even when it was held against the second limb.
func TestIntDivWrongGuess(t *testing.T) {
	r := rand.New(rand.NewSource(2))
	for range 3000 {
		low := drawInt(r, 9)
		b := "5" + strings.Repeat("0", 17) + strings.TrimPrefix(low, "-") + nines(9)
		q := "999999999" + nines(r.Intn(10))
		checkPair(t, impl.IntSub(impl.IntMul(b, q), "1"), b)
		checkPair(t, impl.IntMul(b, q), b)
	}
}

func TestIntLaws(t *testing.T) {
	r := rand.New(rand.NewSource(3))
	for range 2000 {
		a, b, c := drawInt(r, 300), drawInt(r, 300), drawInt(r, 300)
		if impl.IntAdd(impl.IntAdd(a, b), c) != impl.IntAdd(a, impl.IntAdd(b, c)) {
			t.Errorf("sum of %s, %s, %s", a, b, c)
		}
		if impl.IntMul(impl.IntMul(a, b), c) != impl.IntMul(a, impl.IntMul(b, c)) {
			t.Errorf("product of %s, %s, %s", a, b, c)
		}
		if impl.IntMul(a, impl.IntAdd(b, c)) != impl.IntAdd(impl.IntMul(a, b), impl.IntMul(a, c)) {
			t.Errorf("product of %s and a sum of %s, %s", a, b, c)
		}
		if impl.IntAdd(impl.IntSub(a, b), b) != a || impl.IntCmp(a, b) != -impl.IntCmp(b, a) {
			t.Errorf("difference of %s, %s", a, b)
		}
		if b == "0" {
			continue
		}
		q, rest := impl.IntDiv(a, b)
		size := strings.TrimPrefix(b, "-")
		if impl.IntAdd(impl.IntMul(q, b), rest) != a || impl.IntCmp(rest, "0") < 0 || impl.IntCmp(rest, size) >= 0 {
			t.Errorf("%s by %s: %s, %s", a, b, q, rest)
		}
		if g := impl.IntGcd(impl.IntMul(a, c), impl.IntMul(b, c)); g != impl.IntMul(impl.IntGcd(a, b), strings.TrimPrefix(c, "-")) {
			t.Errorf("gcd of %s and %s, both times %s: %s", a, b, c, g)
		}
	}
}

// Common divisors whose quotients are all 1, are great, or are not settled by the leading digits.
func TestIntGcdShapes(t *testing.T) {
	a, b := "0", "1"
	for impl.IsInt(b) {
		if got := impl.IntGcd(b, a); got != "1" {
			t.Fatalf("neighbours in Fibonacci's row: %s and %s: %q", short(a), short(b), short(got))
		}
		for range 97 {
			a, b = b, impl.IntAdd(a, b)
		}
	}
	r := rand.New(rand.NewSource(5))
	for range 1000 {
		common, head := drawInt(r, 200), drawInt(r, 60)
		x, y := impl.IntMul(common, drawInt(r, 300)), impl.IntMul(common, drawInt(r, 30))
		checkPair(t, x, y)
		checkPair(t, impl.IntMul(x, x), impl.IntMul(x, y))
		checkPair(t, impl.IntAdd(impl.IntMul(head, tenTo(50)), drawInt(r, 9)), impl.IntMul(head, tenTo(50)))
		checkPair(t, impl.IntAdd(impl.IntMul(head, tenTo(50)), drawInt(r, 33)), impl.IntAdd(impl.IntMul(head, tenTo(50)), "1"))
		checkPair(t, impl.IntAdd(impl.IntMul(x, tenTo(40)), y), x)
	}
}

func TestIntCmp(t *testing.T) {
	rising := []string{minus(nines(impl.IntDigits)), minus(tenTo(30)), "-1000000000", "-999999999", "-10", "-9", "-1", "0", "1", "9", "10", "999999999", "1000000000", "1000000001", tenTo(30), nines(impl.IntDigits)}
	for i, a := range rising {
		for j, b := range rising {
			want := 0
			if i < j {
				want = -1
			} else if i > j {
				want = 1
			}
			if got := impl.IntCmp(a, b); got != want {
				t.Errorf("%s to %s: %d, want %d", short(a), short(b), got, want)
			}
		}
	}
}

func TestIntLow(t *testing.T) {
	for _, s := range edgeInts() {
		n := bigOf(t, s)
		for w := 1; w <= 64; w++ {
			mod := new(big.Int).Lsh(big.NewInt(1), uint(w))
			want := new(big.Int).Mod(n, mod).Uint64()
			if got := impl.IntLow(s, w); got != want {
				t.Errorf("%s modulo 2^%d: %d, want %d", short(s), w, got, want)
			}
		}
		for _, w := range []int{0, -1, 65, 128, -64, 1 << 62, -1 << 63} {
			if got := impl.IntLow(s, w); got != 0 {
				t.Errorf("%s at the width %d: %d", short(s), w, got)
			}
		}
	}
	if one, all := impl.IntLow("-1", 1), impl.IntLow("-1", 64); one != 1 || all != 1<<64-1 {
		t.Errorf("-1: %d, %d", one, all)
	}
}

func TestIntOf(t *testing.T) {
	r := rand.New(rand.NewSource(4))
	words := []uint64{0, 1, 9, 10, 999999999, 1000000000, 1000000001, 1<<32 - 1, 1 << 32, 999999999999999999, 1000000000000000000, 1 << 63, 1<<64 - 1}
	for range 1000 {
		words = append(words, r.Uint64()>>r.Intn(64))
	}
	for _, n := range words {
		want := new(big.Int).SetUint64(n).String()
		if got := impl.IntOf(n); got != want || impl.IntLow(got, 64) != n {
			t.Errorf("%d: %q", n, got)
		}
	}
}
