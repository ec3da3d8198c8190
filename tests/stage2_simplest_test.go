package tests

import (
	"math/big"
	"math/rand"
	"strings"
	"testing"

	"loop.example/g00007/impl"
)

func from(s string) impl.Bound   { return impl.Bound{Has: true, At: s} }
func beyond(s string) impl.Bound { return impl.Bound{Has: true, Open: true, At: s} }

// shut is whether x is left out by lo or by hi.
func shut(t *testing.T, x *big.Rat, lo, hi impl.Bound) bool {
	t.Helper()
	if lo.Has {
		if order := x.Cmp(ratOf(t, lo.At)); order < 0 || order == 0 && lo.Open {
			return true
		}
	}
	if hi.Has {
		if order := x.Cmp(ratOf(t, hi.At)); order > 0 || order == 0 && hi.Open {
			return true
		}
	}
	return false
}

// searched goes through all numbers from the simplest on, p being at most most and q at most deep.
func searched(t *testing.T, lo, hi impl.Bound, most, deep int64) string {
	t.Helper()
	for q := int64(1); q <= deep; q++ {
		for p := int64(0); p <= most; p++ {
			for _, signed := range []int64{p, -p} {
				if x := big.NewRat(signed, q); !shut(t, x, lo, hi) {
					return ratText(x)
				}
			}
		}
	}
	return ""
}

// showBound tells a bound in a test's words.
func showBound(b impl.Bound) string {
	if !b.Has {
		return "none"
	}
	if b.Open {
		return "open " + short(b.At)
	}
	return short(b.At)
}

// checkSimplest: what Simplest answers lies between the bounds, and nothing simpler does. Of a number above 0 that is
// not whole, the two numbers of smaller q next to it on its two sides are known from the inverse of p modulo q: whatever
// lies between those two has a greater q, so none of them may lie between the bounds. Numbers that lie between the
// bounds on the other side of 0 would have 0 there, too.
func checkSimplest(t *testing.T, lo, hi impl.Bound) {
	t.Helper()
	got := impl.Simplest(lo, hi)
	if !impl.IsRat(got) {
		t.Errorf("from %s to %s: %q", showBound(lo), showBound(hi), got)
		return
	}
	x := ratOf(t, got)
	fail := func(why string) {
		t.Helper()
		t.Errorf("from %s to %s: %s: %s", showBound(lo), showBound(hi), short(got), why)
	}
	if shut(t, x, lo, hi) {
		fail("outside")
	}
	if x.Sign() == 0 {
		return
	}
	if !shut(t, new(big.Rat), lo, hi) {
		fail("0 is between them")
	}
	if x.IsInt() {
		if nearer := new(big.Rat).Sub(x, big.NewRat(int64(x.Sign()), 1)); !shut(t, nearer, lo, hi) {
			fail("a whole number nearer to 0 is between them")
		}
		return
	}
	p, q := x.Num(), x.Denom()
	below := new(big.Int).ModInverse(p, q) // p * below = 1 modulo q: the left neighbour has this q
	left := new(big.Rat).SetFrac(new(big.Int).Div(new(big.Int).Mul(p, below), q), below)
	above := new(big.Int).Sub(q, below)
	right := new(big.Rat).SetFrac(new(big.Int).Add(new(big.Int).Div(new(big.Int).Mul(p, above), q), big.NewInt(1)), above)
	if left.Cmp(x) >= 0 || right.Cmp(x) <= 0 {
		t.Fatalf("the neighbours of %s: %s and %s", short(got), short(left.String()), short(right.String()))
	}
	if !shut(t, left, lo, hi) || !shut(t, right, lo, hi) {
		fail("a number with a smaller q is between them")
	}
}

func TestSimplestExamples(t *testing.T) {
	none := impl.Bound{}
	most := nines(impl.IntDigits)
	cases := []struct {
		lo, hi impl.Bound
		want   string
	}{
		{beyond("1/3"), beyond("1/2"), "2/5"}, {from("7/2"), none, "4"}, {from("-5/2"), from("5/2"), "0"}, {beyond("2"), from("2"), ""},
		// Open or not, at one end or both.
		{from("1/3"), from("1/2"), "1/2"}, {from("1/3"), beyond("1/2"), "1/3"}, {beyond("1/3"), from("1/2"), "1/2"},
		{from("2"), from("3"), "2"}, {beyond("2"), from("3"), "3"}, {from("2"), beyond("3"), "2"}, {beyond("2"), beyond("3"), "5/2"},
		{from("-3"), from("-2"), "-2"}, {beyond("-3"), from("-2"), "-2"}, {from("-3"), beyond("-2"), "-3"}, {beyond("-3"), beyond("-2"), "-5/2"},
		// Bounds that meet, and bounds that pass each other.
		{from("2"), from("2"), "2"}, {from("2"), beyond("2"), ""}, {beyond("2"), beyond("2"), ""}, {from("-7/3"), from("-7/3"), "-7/3"},
		{from("0"), from("0"), "0"}, {beyond("0"), from("0"), ""}, {from("0"), beyond("0"), ""}, {from("5/7"), beyond("5/7"), ""},
		{from("3"), from("2"), ""}, {from("1/2"), from("1/3"), ""}, {from("1"), from("-1"), ""}, {from("-1/3"), from("-1/2"), ""}, {from("0"), from("-1"), ""},
		// No bounds, and one bound.
		{none, none, "0"}, {from("5"), none, "5"}, {beyond("5"), none, "6"}, {from("-5"), none, "0"}, {from("0"), none, "0"}, {beyond("0"), none, "1"},
		{none, from("5"), "0"}, {none, beyond("5"), "0"}, {none, from("0"), "0"}, {none, beyond("0"), "-1"}, {none, from("-7/2"), "-4"},
		{none, beyond("-4"), "-5"}, {none, from("-4"), "-4"}, {beyond("1/3"), none, "1"}, {none, beyond("-1/3"), "-1"},
		// 0 between them, at an end and left out.
		{from("-1/3"), from("7"), "0"}, {beyond("-1/3"), beyond("1/9"), "0"}, {from("0"), from("1/9"), "0"}, {from("-1/9"), from("0"), "0"},
		{beyond("0"), from("1/9"), "1/9"}, {beyond("0"), beyond("1/9"), "1/10"}, {from("-1/9"), beyond("0"), "-1/9"}, {beyond("-1/9"), beyond("0"), "-1/10"},
		{beyond("0"), from("2/9"), "1/5"}, {beyond("0"), from("7/2"), "1"}, {beyond("-1"), beyond("0"), "-1/2"},
		// Both below 0.
		{beyond("-1/2"), beyond("-1/3"), "-2/5"}, {from("-1/2"), from("-1/3"), "-1/2"}, {from("-1/2"), beyond("-1/3"), "-1/2"}, {beyond("-1/2"), from("-1/3"), "-1/3"},
		{from("-7/2"), from("-5/2"), "-3"}, {from("-10"), from("-5/2"), "-3"}, {from("-10"), beyond("-3"), "-4"},
		// Several steps down.
		{from("157/50"), from("63/20"), "22/7"}, {beyond("22/7"), beyond("63/20"), "85/27"}, {beyond("157/50"), beyond("22/7"), "179/57"},
		{beyond("3141592/1000001"), from("3141593/1000000"), "355/113"}, {from("-3141593/1000000"), from("-392699/125000"), "-355/113"},
		// Many digits.
		{from(most), none, most}, {beyond(most), none, ""}, {beyond(nines(2499) + "8"), none, most}, {none, beyond(minus(most)), ""}, {none, from(minus(most)), minus(most)},
		{beyond("0"), from("1/" + most), "1/" + most}, {beyond("0"), beyond("1/" + most), ""}, {beyond("-1/" + most), beyond("0"), ""},
		{beyond("0"), beyond("1/" + nines(2499) + "8"), "1/" + most}, {from(minus(most) + "/2"), from(minus(most) + "/2"), minus(most) + "/2"},
		{beyond("4" + nines(2499)), beyond("5" + strings.Repeat("0", 2499)), most + "/2"}, {beyond("5" + strings.Repeat("0", 2499)), beyond("5" + strings.Repeat("0", 2498) + "1"), ""},
	}
	for i, c := range cases {
		if got := impl.Simplest(c.lo, c.hi); got != c.want {
			t.Errorf("case %d, from %s to %s: %q, want %q", i, showBound(c.lo), showBound(c.hi), short(got), short(c.want))
		}
	}
}

// A bound without Has is none: what else it tells is not looked at, be it a number or not.
func TestSimplestWithoutHas(t *testing.T) {
	for _, at := range []string{"", "0", "7", "-7/2", "2/4", "x", nines(impl.IntDigits + 1)} {
		for _, open := range []bool{false, true} {
			none := impl.Bound{Open: open, At: at}
			cases := []struct {
				lo, hi impl.Bound
				want   string
			}{{none, none, "0"}, {from("7/2"), none, "4"}, {none, from("-7/2"), "-4"}, {beyond("3"), none, "4"}, {none, beyond("-3"), "-4"}, {from("-1"), none, "0"}}
			for _, c := range cases {
				if got := impl.Simplest(c.lo, c.hi); got != c.want {
					t.Errorf("with %+v, from %s to %s: %q, want %q", none, showBound(c.lo), showBound(c.hi), got, c.want)
				}
			}
		}
	}
}

func TestSimplestWrongTexts(t *testing.T) {
	for _, wrong := range noRats() {
		for _, good := range []impl.Bound{{}, from("-1"), from("1/2"), beyond("0")} {
			for _, bad := range []impl.Bound{from(wrong), beyond(wrong)} {
				if impl.Simplest(bad, good) != "" || impl.Simplest(good, bad) != "" || impl.Simplest(bad, bad) != "" {
					t.Errorf("with the bound %q and %+v", short(wrong), good)
				}
			}
		}
	}
}

// All pairs of small numbers, with every kind of bound: held against a search from the simplest number on.
func TestSimplestSmall(t *testing.T) {
	bounds := []impl.Bound{{}}
	for q := int64(1); q <= 5; q++ {
		for p := int64(-7); p <= 7; p++ {
			if at := big.NewRat(p, q); at.Denom().Int64() == q {
				bounds = append(bounds, from(ratText(at)), beyond(ratText(at)))
			}
		}
	}
	for _, lo := range bounds {
		for _, hi := range bounds {
			// Open ends of q up to 5 have a number of q up to 10 between them; a bound alone has a whole number beyond it.
			if got, want := impl.Simplest(lo, hi), searched(t, lo, hi, 15, 10); got != want {
				t.Errorf("from %s to %s: %q, want %q", showBound(lo), showBound(hi), got, want)
			}
		}
	}
}

// checkBetween holds a and b, in their order, with every kind of bound.
func checkBetween(t *testing.T, a, b string) {
	t.Helper()
	order := impl.RatCmp(a, b)
	if order > 0 {
		a, b = b, a
	}
	checkSimplest(t, from(a), from(b))
	checkSimplest(t, from(a), impl.Bound{})
	checkSimplest(t, impl.Bound{}, from(b))
	checkSimplest(t, beyond(a), impl.Bound{})
	checkSimplest(t, impl.Bound{}, beyond(b))
	open := [][2]impl.Bound{{beyond(a), from(b)}, {from(a), beyond(b)}, {beyond(a), beyond(b)}}
	for _, o := range open {
		if order != 0 {
			checkSimplest(t, o[0], o[1])
		} else if got := impl.Simplest(o[0], o[1]); got != "" {
			t.Errorf("from %s to %s: %q", showBound(o[0]), showBound(o[1]), got)
		}
	}
	if order != 0 && impl.Simplest(from(b), from(a)) != "" {
		t.Errorf("from %s down to %s", short(b), short(a))
	}
}

func TestSimplestDrawn(t *testing.T) {
	r := rand.New(rand.NewSource(23))
	for range 3000 {
		checkBetween(t, drawRat(r, 4), drawRat(r, 4))
		a := drawRat(r, 50)
		checkBetween(t, a, impl.RatAdd(a, impl.RatDiv("1", tenTo(r.Intn(110)))))
		checkBetween(t, a, impl.RatAdd(a, impl.RatDiv("-1", tenTo(r.Intn(110)))))
	}
	for range 20 {
		a := drawRat(r, 800)
		checkBetween(t, a, impl.RatAdd(a, impl.RatDiv("1", tenTo(r.Intn(1600)))))
	}
}

// Numbers whose steps down are all the same, as many as there can be: neighbours in Fibonacci's row.
func TestSimplestDeep(t *testing.T) {
	a, b, c := "1", "1", "2"
	for next := impl.IntAdd(b, c); impl.IsInt(next); next = impl.IntAdd(b, c) {
		a, b, c = b, c, next
	}
	low, high := impl.RatOf(b, a), impl.RatOf(c, b)
	if impl.RatCmp(low, high) > 0 {
		low, high = high, low
	}
	if got := impl.Simplest(from(low), from(high)); got != b+"/"+a {
		t.Errorf("the one with the smaller q: %s", short(got))
	}
	if got := impl.Simplest(beyond(low), beyond(high)); got != "" {
		t.Errorf("p of one digit more: %s", short(got))
	}
	older := impl.IntSub(b, a)
	low, high = impl.RatOf(a, older), impl.RatOf(b, a)
	if impl.RatCmp(low, high) > 0 {
		low, high = high, low
	}
	if got := impl.Simplest(beyond(low), beyond(high)); got != c+"/"+b {
		t.Errorf("the one between them: %s, want %s", short(got), short(c+"/"+b))
	}
	if got := impl.Simplest(beyond(impl.RatMul(high, "-1")), beyond(impl.RatMul(low, "-1"))); got != minus(c)+"/"+b {
		t.Errorf("the one between them, below 0: %s", short(got))
	}
}
