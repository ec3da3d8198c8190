package tests

import (
	"math/big"
	"math/rand"
	"strings"
	"testing"

	"loop.example/g00007/impl"
)

// The signatures that the document gives: a change of one is no longer built.
var (
	_ func(string) bool                   = impl.IsRat
	_ func(string, string) string         = impl.RatOf
	_ func(string, string) string         = impl.RatAdd
	_ func(string, string) string         = impl.RatMul
	_ func(string, string) string         = impl.RatDiv
	_ func(string, string) int            = impl.RatCmp
	_ func(string) string                 = impl.RatFloor
	_ func(impl.Bound, impl.Bound) string = impl.Simplest
	_ struct {
		Has  bool
		Open bool
		At   string
	} = impl.Bound{}
)

// noRats are texts that are no rat texts, each for another reason.
func noRats() []string {
	out := []string{
		"2/4", "-2/4", "3/1", "-3/1", "0/1", "0/2", "-0/2", "-0", "1/-2", "-1/-2", "1/0", "-1/0", "0/0", "1/-1", "4/2", "6/3",
		"1/", "/2", "/", "-/2", "1//2", "1/2/3", "1/2/", "/1/2", "1 /2", "1/ 2", " 1/2", "1/2 ", "+1/2", "1/+2", "01/2",
		"1/02", "1/2a", "a/2", "1/a", "1.5", "1,2", "1\\2", "1:2", "1/2\x00", "\x00/2", "1/2\n", "1\xff/2", "1⁄2", "½",
		"1/" + tenTo(impl.IntDigits), tenTo(impl.IntDigits) + "/3", minus(tenTo(impl.IntDigits)) + "/3", "1/" + minus(nines(9)),
		nines(impl.IntDigits) + "/3", "3/" + nines(impl.IntDigits), nines(impl.IntDigits) + "/" + nines(impl.IntDigits),
		"1/" + nines(impl.IntDigits+1), tenTo(2400) + "/" + tenTo(2300),
	}
	for _, s := range noInts() {
		if s != "1/2" { // the one of them that is a rat text
			out = append(out, s, s+"/7", "5/"+s)
		}
	}
	return out
}

// edgeRats are numbers at the ends of what is allowed and of what is easy, both signs of each.
func edgeRats() []string {
	most := nines(impl.IntDigits)
	out := []string{
		"0", "1", "2", "7", "10", "1/2", "1/3", "2/3", "3/2", "4/3", "5/3", "7/2", "22/7", "355/113", "1/1000000000", "1000000001/1000000000",
		"999999999/1000000000", "1000000000/999999999", "1/999999999", "18446744073709551616/18446744073709551615",
		"1/" + tenTo(40), tenTo(40) + "/3", nines(60) + "/" + tenTo(60), tenTo(1250), "1/" + tenTo(1250), tenTo(1250) + "/7", "7/" + tenTo(1250),
		most, most + "/2", "1/" + most, "2/" + most, most + "/" + tenTo(impl.IntDigits-1), tenTo(impl.IntDigits-1) + "/" + most,
	}
	for _, s := range out[1:] {
		out = append(out, minus(s))
	}
	return out
}

func ratOf(t *testing.T, s string) *big.Rat {
	t.Helper()
	n, ok := new(big.Rat).SetString(s)
	if !ok {
		t.Fatalf("%q is no number", s)
	}
	return n
}

// ratText is what the document asks for the number n.
func ratText(n *big.Rat) string {
	p, q := intText(n.Num()), intText(n.Denom())
	if q == "1" {
		return p
	}
	if p == "" || q == "" {
		return ""
	}
	return p + "/" + q
}

func floorText(n *big.Rat) string {
	// Div of the library is the division whose rest is never below 0; a Denom is above 0.
	return intText(new(big.Int).Div(n.Num(), n.Denom()))
}

// checkRats holds every operation on a and b against the library's numbers.
func checkRats(t *testing.T, a, b string) {
	t.Helper()
	x, y := ratOf(t, a), ratOf(t, b)
	say := func(what, got, want string) {
		t.Helper()
		if got != want {
			t.Errorf("%s %s %s: %q, want %q", what, short(a), short(b), short(got), short(want))
		}
	}
	say("add", impl.RatAdd(a, b), ratText(new(big.Rat).Add(x, y)))
	say("mul", impl.RatMul(a, b), ratText(new(big.Rat).Mul(x, y)))
	say("floor", impl.RatFloor(a), floorText(x))
	if got := impl.RatCmp(a, b); got != x.Cmp(y) {
		t.Errorf("cmp %s %s: %d, want %d", short(a), short(b), got, x.Cmp(y))
	}
	if y.Sign() == 0 {
		say("div", impl.RatDiv(a, b), "")
		return
	}
	say("div", impl.RatDiv(a, b), ratText(new(big.Rat).Quo(x, y)))
}

func TestRatIsRat(t *testing.T) {
	for _, s := range append(edgeRats(), edgeInts()...) {
		if !impl.IsRat(s) {
			t.Errorf("%s is a rat text", short(s))
		}
	}
	for _, s := range noRats() {
		if impl.IsRat(s) {
			t.Errorf("%q is no rat text", short(s))
		}
	}
	for c := range 256 {
		s := string([]byte{byte(c)})
		if impl.IsRat("1"+s+"7") != (c >= '0' && c <= '9' || c == '/') {
			t.Errorf("byte %d", c)
		}
		if impl.IsRat("12/"+s) != (c == '5' || c == '7') || impl.IsRat(s+"/6") != (c == '1' || c == '5' || c == '7') {
			t.Errorf("byte %d as a part", c)
		}
	}
	for p := -40; p <= 40; p++ {
		for q := -3; q <= 40; q++ {
			s := impl.IntSub(impl.IntOf(uint64(p+40)), "40") + "/" + impl.IntSub(impl.IntOf(uint64(q+3)), "3")
			common := new(big.Int).GCD(nil, nil, big.NewInt(int64(max(p, -p))), big.NewInt(int64(max(q, 0))))
			if impl.IsRat(s) != (p != 0 && q > 1 && common.IsInt64() && common.Int64() == 1) {
				t.Errorf("%q: %v", s, impl.IsRat(s))
			}
		}
	}
}

func TestRatOf(t *testing.T) {
	most := nines(impl.IntDigits)
	cases := [][3]string{
		{"6", "-4", "-3/2"}, {"-6", "-4", "3/2"}, {"-6", "4", "-3/2"}, {"6", "4", "3/2"}, {"6", "3", "2"}, {"6", "-3", "-2"},
		{"0", "5", "0"}, {"0", "-5", "0"}, {"0", "1", "0"}, {"5", "1", "5"}, {"5", "-1", "-5"}, {"-5", "-5", "1"}, {"5", "-5", "-1"},
		{"1", "2", "1/2"}, {"1", "-2", "-1/2"}, {"12", "18", "2/3"}, {"1", "0", ""}, {"0", "0", ""}, {"-1", "0", ""},
		{most, most, "1"}, {most, "1", most}, {most, "-1", minus(most)}, {"1", most, "1/" + most}, {"1", minus(most), "-1/" + most},
		{most, "9", strings.Repeat("1", impl.IntDigits)}, {"9", most, "1/" + strings.Repeat("1", impl.IntDigits)},
		{tenTo(impl.IntDigits - 1), "2", "5" + strings.Repeat("0", impl.IntDigits-2)}, {minus(most), minus(tenTo(2499)), most + "/" + tenTo(2499)},
	}
	for _, c := range cases {
		if got := impl.RatOf(c[0], c[1]); got != c[2] {
			t.Errorf("%s by %s: %q, want %q", short(c[0]), short(c[1]), short(got), short(c[2]))
		}
	}
	for _, a := range edgeInts() {
		for _, b := range []string{"1", "-1", "2", "-6", "999999999", "-1000000000", "18446744073709551616", nines(90), minus(tenTo(1249)), nines(impl.IntDigits)} {
			want := ratText(new(big.Rat).SetFrac(bigOf(t, a), bigOf(t, b)))
			if got := impl.RatOf(a, b); got != want {
				t.Errorf("%s by %s: %q, want %q", short(a), short(b), short(got), short(want))
			}
		}
		if got := impl.RatOf(a, "0"); got != "" {
			t.Errorf("%s by 0: %q", short(a), short(got))
		}
	}
	// A rat text that is no int text is none of RatOf's texts.
	for _, wrong := range append(noInts(), "1/2", "-3/7", "6/3") {
		if impl.RatOf(wrong, "3") != "" || impl.RatOf("3", wrong) != "" || impl.RatOf(wrong, wrong) != "" || impl.RatOf("0", wrong) != "" {
			t.Errorf("a quotient with %q", short(wrong))
		}
	}
}

func TestRatExamples(t *testing.T) {
	cases := [][3]string{
		{"sum", impl.RatAdd("1/2", "1/3"), "5/6"}, {"sum", impl.RatAdd("1/2", "-1/2"), "0"}, {"sum", impl.RatAdd("1/6", "1/3"), "1/2"},
		{"sum", impl.RatAdd("-7/2", "3"), "-1/2"}, {"sum", impl.RatAdd("0", "-5/3"), "-5/3"}, {"sum", impl.RatAdd("2", "3"), "5"},
		{"product", impl.RatMul("2/3", "-3/2"), "-1"}, {"product", impl.RatMul("-2/3", "-3/4"), "1/2"}, {"product", impl.RatMul("0", "-5/3"), "0"},
		{"quotient", impl.RatDiv("1/2", "-1/4"), "-2"}, {"quotient", impl.RatDiv("-1", "-3"), "1/3"}, {"quotient", impl.RatDiv("0", "-3"), "0"},
		{"quotient", impl.RatDiv("5", "0"), ""}, {"quotient", impl.RatDiv("0", "0"), ""}, {"quotient", impl.RatDiv("5/3", "0"), ""},
		{"floor", impl.RatFloor("-1/2"), "-1"}, {"floor", impl.RatFloor("1/2"), "0"}, {"floor", impl.RatFloor("-3"), "-3"}, {"floor", impl.RatFloor("0"), "0"},
		{"floor", impl.RatFloor("-7/2"), "-4"}, {"floor", impl.RatFloor("7/2"), "3"}, {"floor", impl.RatFloor("-6/7"), "-1"}, {"floor", impl.RatFloor("-8/7"), "-2"},
	}
	for i, c := range cases {
		if c[1] != c[2] {
			t.Errorf("case %d, a %s: %q, want %q", i, c[0], c[1], c[2])
		}
	}
}

func TestRatDigitLimit(t *testing.T) {
	most, root := nines(impl.IntDigits), tenTo(1250)
	ones := strings.Repeat("1", impl.IntDigits)
	cases := []struct{ what, got, want string }{
		{"most + 1", impl.RatAdd(most, "1"), ""},
		{"-most - 1", impl.RatAdd(minus(most), "-1"), ""},
		{"most - 1/2 in 2500 digits", impl.RatAdd("5"+strings.Repeat("0", 2499), "-1/2"), nines(2500) + "/2"},
		{"p of 2501 digits", impl.RatAdd("5"+strings.Repeat("0", 2499), "1/2"), ""},
		{"-p of 2501 digits", impl.RatAdd("-5"+strings.Repeat("0", 2499), "-1/2"), ""},
		{"1/most + 0", impl.RatAdd("1/"+most, "0"), "1/" + most},
		{"q of 2501 digits", impl.RatAdd("1/"+most, "1/2"), ""},
		{"q of 2500 digits", impl.RatMul("1/"+tenTo(1250), "1/"+tenTo(1249)), "1/" + tenTo(2499)},
		{"q one more", impl.RatMul("1/"+root, "1/"+root), ""},
		{"p of 2500 digits", impl.RatMul(tenTo(1250), tenTo(1249)), tenTo(2499)},
		{"p one more", impl.RatMul(root, minus(root)), ""},
		{"most / (1/10)", impl.RatDiv(most, "1/10"), ""},
		{"(1/most) / 10", impl.RatDiv("1/"+most, "-10"), ""},
		{"p and q too long before they are in lowest terms", impl.RatMul(most+"/2", "2/"+most), "1"},
		{"likewise, a sum", impl.RatAdd(most+"/2", minus(most)+"/2"), "0"},
		{"likewise, another", impl.RatAdd("1/"+most, "1/"+most), "2/" + most},
		{"likewise, a quotient", impl.RatDiv("7/"+most, "1/"+most), "7"},
		{"nines by 9", impl.RatDiv(most, "9"), ones},
		{"1 over nines over 9", impl.RatDiv("9", most), "1/" + ones},
		{"1 over most", impl.RatDiv("-1", most), "-1/" + most},
		{"floor of most/2", impl.RatFloor(most + "/2"), "4" + nines(2499)},
		{"floor of -most/2", impl.RatFloor(minus(most) + "/2"), "-5" + strings.Repeat("0", 2499)},
		{"floor of -1/most", impl.RatFloor("-1/" + most), "-1"},
	}
	for _, c := range cases {
		if c.got != c.want {
			t.Errorf("%s: %q, want %q", c.what, short(c.got), short(c.want))
		}
	}
	if impl.RatCmp("1/"+most, "1/"+ones) != -1 || impl.RatCmp("-1/"+most, "-1/"+ones) != 1 || impl.RatCmp(most+"/2", most+"/2") != 0 {
		t.Error("the order of numbers of many digits")
	}
}

func TestRatWrongTexts(t *testing.T) {
	for _, wrong := range noRats() {
		if got := impl.RatFloor(wrong); got != "" {
			t.Errorf("floor of %q: %q", short(wrong), got)
		}
		for _, good := range []string{"0", "1", "-7/2", wrong} {
			for _, p := range [][2]string{{wrong, good}, {good, wrong}} {
				a, b := p[0], p[1]
				if impl.RatAdd(a, b) != "" || impl.RatMul(a, b) != "" || impl.RatDiv(a, b) != "" {
					t.Errorf("a sum, product or quotient of %q and %q", short(a), short(b))
				}
				if got := impl.RatCmp(a, b); got != -2 {
					t.Errorf("cmp of %q and %q: %d", short(a), short(b), got)
				}
			}
		}
	}
}

func TestRatEdgePairs(t *testing.T) {
	for _, a := range edgeRats() {
		for _, b := range edgeRats() {
			checkRats(t, a, b)
		}
	}
}

// drawRat draws a number whose parts have up to n digits, a whole one now and then.
func drawRat(r *rand.Rand, n int) string {
	q := drawInt(r, n)
	if q == "0" || r.Intn(6) == 0 {
		q = "1"
	}
	return impl.RatOf(drawInt(r, n), q)
}

func TestRatDrawnPairs(t *testing.T) {
	r := rand.New(rand.NewSource(21))
	for range 10000 {
		checkRats(t, drawRat(r, 3), drawRat(r, 3))
		checkRats(t, drawRat(r, 40), drawRat(r, 40))
	}
	for range 60 {
		checkRats(t, drawRat(r, impl.IntDigits), drawRat(r, impl.IntDigits))
		checkRats(t, drawRat(r, 1300), drawRat(r, 1300))
	}
}

func TestRatLaws(t *testing.T) {
	r := rand.New(rand.NewSource(22))
	for range 1500 {
		a, b, c := drawRat(r, 60), drawRat(r, 60), drawRat(r, 60)
		if impl.RatAdd(impl.RatAdd(a, b), c) != impl.RatAdd(a, impl.RatAdd(b, c)) || impl.RatAdd(a, b) != impl.RatAdd(b, a) {
			t.Errorf("sum of %s, %s, %s", a, b, c)
		}
		if impl.RatMul(impl.RatMul(a, b), c) != impl.RatMul(a, impl.RatMul(b, c)) || impl.RatMul(a, b) != impl.RatMul(b, a) {
			t.Errorf("product of %s, %s, %s", a, b, c)
		}
		if impl.RatMul(a, impl.RatAdd(b, c)) != impl.RatAdd(impl.RatMul(a, b), impl.RatMul(a, c)) {
			t.Errorf("product of %s and a sum of %s, %s", a, b, c)
		}
		if impl.RatAdd(a, "0") != a || impl.RatMul(a, "1") != a || impl.RatAdd(a, impl.RatMul(a, "-1")) != "0" {
			t.Errorf("%s with 0 and 1", a)
		}
		if b != "0" && impl.RatMul(impl.RatDiv(a, b), b) != a {
			t.Errorf("%s by %s", a, b)
		}
		if impl.RatCmp(a, b) != -impl.RatCmp(b, a) || impl.RatCmp(a, b) != impl.RatCmp(impl.RatAdd(a, c), impl.RatAdd(b, c)) {
			t.Errorf("the order of %s and %s", a, b)
		}
		n := impl.RatFloor(a)
		if !impl.IsInt(n) || impl.RatCmp(n, a) > 0 || impl.RatCmp(impl.RatAdd(n, "1"), a) <= 0 {
			t.Errorf("floor of %s: %s", a, n)
		}
		if !impl.IsRat(impl.RatAdd(a, b)) || !impl.IsRat(impl.RatMul(a, b)) {
			t.Errorf("sum or product of %s, %s: no rat text", a, b)
		}
	}
}
