package tests

import (
	"slices"
	"strconv"
	"strings"
	"testing"

	"loop.example/g00007/impl"
)

// numbersBank has n constants of a sort of numbers, x0 and so on, whose terms come first.
func numbersBank(t *testing.T, sort string, n int) *growing {
	t.Helper()
	return &growing{t: t, bank: bankWith(t, slices.Repeat([]string{sort}, n))}
}

// upTo are the numbers from 0 on.
func upTo(n int) []int {
	var all []int
	for i := range n {
		all = append(all, i)
	}
	return all
}

// linear asks for the sum of a term: whether it has one, its Const, and its Monos as pairs of a term and a Coef.
func (g *growing) linear(id int, isOk bool, rest string, monos ...string) {
	g.t.Helper()
	got := checkLinear(g.t, g.bank, id)
	var told []string
	for _, mono := range got.Monos {
		told = append(told, strconv.Itoa(mono.Term), mono.Coef)
	}
	if got.Ok != isOk || got.Const != rest || !slices.Equal(told, monos) {
		g.t.Errorf("term %d: %v %s %s, want %v %s %s", id, got.Ok, short(got.Const), short(strings.Join(told, " ")), isOk, short(rest), short(strings.Join(monos, " ")))
	}
}

// image gives the image of a term, which must have the kids and the operation that are told.
func (g *growing) image(id int) impl.Term {
	g.t.Helper()
	r := checkSimplify(g.t, g.bank)
	if !r.Ok {
		g.t.Fatalf("%s: not Ok", shortBank(g.bank))
	}
	return r.Bank.Terms[r.To[id]]
}

func TestStage8LinearOf(t *testing.T) {
	for _, sort := range []string{"Int", "Real"} {
		g := numbersBank(t, sort, 3)
		x, y, z := 0, 1, 2
		two, three, seven := g.num(sort, "2"), g.num(sort, "-3"), g.num(sort, "7")
		g.linear(x, true, "0", "0", "1")
		g.linear(z, true, "0", "2", "1")
		g.linear(three, true, "-3")
		g.linear(g.num(sort, "0"), true, "0")
		g.linear(g.op(impl.OpAdd, sort, z, x), true, "0", "0", "1", "2", "1")
		g.linear(g.op(impl.OpAdd, sort, x, x), true, "0", "0", "2")
		g.linear(g.op(impl.OpAdd, sort, y, seven, x, three, y), true, "4", "0", "1", "1", "2")
		g.linear(g.op(impl.OpSub, sort, x, y), true, "0", "0", "1", "1", "-1")
		g.linear(g.op(impl.OpSub, sort, x, x), true, "0")
		g.linear(g.op(impl.OpSub, sort, seven, x), true, "7", "0", "-1")
		g.linear(g.op(impl.OpNeg, sort, y), true, "0", "1", "-1")
		g.linear(g.op(impl.OpNeg, sort, seven), true, "-7")
		g.linear(g.op(impl.OpNeg, sort, g.op(impl.OpNeg, sort, y)), true, "0", "1", "1")
		g.linear(g.op(impl.OpMul, sort, two, x), true, "0", "0", "2")
		g.linear(g.op(impl.OpMul, sort, two, seven), true, "14")
		g.linear(g.op(impl.OpMul, sort, g.num(sort, "0"), x), true, "0")
		sum := g.op(impl.OpAdd, sort, g.op(impl.OpMul, sort, three, x), y, seven)
		g.linear(sum, true, "7", "0", "-3", "1", "1")
		g.linear(g.op(impl.OpMul, sort, three, sum), true, "-21", "0", "9", "1", "-3")
		g.linear(g.op(impl.OpSub, sort, sum, g.op(impl.OpSub, sort, g.op(impl.OpMul, sort, three, x), z)), true, "7", "1", "1", "2", "1")
		g.linear(g.op(impl.OpAdd, sort, sum, g.op(impl.OpNeg, sort, sum)), true, "0")
		same := g.op(impl.OpEq, "Bool", x, y)
		choice := g.op(impl.OpIte, sort, same, sum, x)
		g.linear(choice, true, "0", strconv.Itoa(choice), "1")
		g.linear(g.op(impl.OpSub, sort, choice, sum), true, "-7", "0", "3", "1", "-1", strconv.Itoa(choice), "1")
		g.linear(same, false, "")
	}
}

// Quotients, rests, calls, elements of arrays and to_real are themselves, whatever their kids are.
func TestStage8LinearOfOthers(t *testing.T) {
	r := parsed(t, declaredMix+"(get-value ((div (+ x 1) 2) (mod (- x x) 3) (f (+ 1 2)) (h r w 0) (select a (* 0 x)) (to_real (+ x 1)) (to_real 3) (ite p 1 2) u w p a (store a 1 2) #b0001 (bvadd w w) (< x y)))")
	for _, id := range r.Script.Commands[0].Ids {
		x := r.Script.Bank.Terms[id]
		want := impl.Linear{}
		if x.Sort == "Int" || x.Sort == "Real" {
			want = impl.Linear{Ok: true, Monos: []impl.Mono{{Term: id, Coef: "1"}}, Const: "0"}
		}
		if got := checkLinear(t, r.Script.Bank, id); got.Ok != want.Ok || got.Const != want.Const || !slices.Equal(got.Monos, want.Monos) {
			t.Errorf("%+v: %v", x, got)
		}
	}
}

func TestStage8LinearOfFractions(t *testing.T) {
	g := numbersBank(t, "Real", 2)
	half, third, sixth := g.num("Real", "1/2"), g.num("Real", "1/3"), g.num("Real", "-1/6")
	hx, tx, sx := g.op(impl.OpMul, "Real", half, 0), g.op(impl.OpMul, "Real", third, 0), g.op(impl.OpMul, "Real", sixth, 0)
	g.linear(hx, true, "0", "0", "1/2")
	g.linear(g.op(impl.OpAdd, "Real", hx, tx), true, "0", "0", "5/6")
	g.linear(g.op(impl.OpAdd, "Real", hx, tx, sx, half), true, "1/2", "0", "2/3")
	g.linear(g.op(impl.OpAdd, "Real", tx, sx, sx, 1, third, sixth), true, "1/6", "1", "1")
	g.linear(g.op(impl.OpSub, "Real", sx, tx), true, "0", "0", "-1/2")
	g.linear(g.op(impl.OpMul, "Real", third, g.op(impl.OpAdd, "Real", hx, half)), true, "1/6", "0", "1/6")
	g.linear(g.op(impl.OpAdd, "Real", hx, hx), true, "0", "0", "1")
}

// MaxKids Monos and one more, in the term and in one below it that is looked at; only the whole counts, not a part of it.
func TestStage8ManyMonos(t *testing.T) {
	for _, sort := range []string{"Int", "Real"} {
		g := numbersBank(t, sort, 60)
		fifty := g.op(impl.OpAdd, sort, upTo(50)...)
		one := g.num(sort, "1")
		all := func(n int) (monos []string) {
			for i := range n {
				monos = append(monos, strconv.Itoa(i), "1")
			}
			return monos
		}
		g.linear(fifty, true, "0", all(50)...)
		more := g.op(impl.OpAdd, sort, fifty, 50)
		g.linear(more, false, "")
		g.linear(g.op(impl.OpAdd, sort, fifty, 49, one), true, "1", append(all(49), "49", "2")...)
		g.linear(g.op(impl.OpAdd, sort, fifty, 50, 51, g.op(impl.OpNeg, sort, 51), g.op(impl.OpNeg, sort, 50)), true, "0", all(50)...)
		g.linear(g.op(impl.OpSub, sort, g.op(impl.OpAdd, sort, fifty, one), g.op(impl.OpAdd, sort, 48, 49)), true, "1", all(48)...)
		g.linear(g.op(impl.OpAdd, sort, g.op(impl.OpSub, sort, fifty, fifty), 50), true, "0", "50", "1")
		g.linear(g.op(impl.OpSub, sort, more, 50), false, "")
		g.linear(g.op(impl.OpSub, sort, more, more), false, "")
		g.linear(g.op(impl.OpNeg, sort, more), false, "")
		g.linear(g.op(impl.OpMul, sort, g.num(sort, "0"), more), false, "")
		g.linear(g.op(impl.OpAdd, sort, 3, more), false, "")
		choice := g.op(impl.OpIte, sort, g.op(impl.OpEq, "Bool", 0, 1), more, 2)
		g.linear(choice, true, "0", strconv.Itoa(choice), "1")
		checkSimplify(t, g.bank)
	}
}

// A sum of MaxKids parts is made; one of one part more stays as it is, but it still has its Monos.
func TestStage8ManyParts(t *testing.T) {
	for _, sort := range []string{"Int", "Real"} {
		g := numbersBank(t, sort, 51)
		one := g.num(sort, "1")
		fifty := g.op(impl.OpAdd, sort, upTo(50)...)
		full := g.op(impl.OpAdd, sort, fifty, one)
		if x := g.image(full); x.Op != impl.OpAdd || len(x.Kids) != 2 {
			t.Errorf("50 Monos and a Const: %+v", x)
		}
		if x := g.image(g.op(impl.OpSub, sort, full, 0)); x.Op != impl.OpAdd || len(x.Kids) != 50 {
			t.Errorf("49 Monos and a Const: %+v", x)
		}
		if x := g.image(g.op(impl.OpSub, sort, full, one)); x.Op != impl.OpAdd || len(x.Kids) != 50 {
			t.Errorf("50 Monos: %+v", x)
		}
		if x := g.image(g.op(impl.OpAdd, sort, fifty, 50)); x.Op != impl.OpAdd || len(x.Kids) != 2 {
			t.Errorf("51 Monos: %+v", x)
		}
		if x := g.image(g.op(impl.OpEq, "Bool", full, g.op(impl.OpAdd, sort, one, fifty))); x.Op != impl.OpTrue {
			t.Errorf("two sums of 51 parts that are the same: %+v", x)
		}
		le := g.op(impl.OpLe, "Bool", full, g.num(sort, "9"))
		if x := g.image(le); x.Op != impl.OpLe {
			t.Errorf("a bound for 50 Monos: %+v", x)
		}
		if x := g.image(g.op(impl.OpLe, "Bool", full, 50)); x.Op != impl.OpLe || len(x.Kids) != 2 {
			t.Errorf("a bound for 51 Monos: %+v", x)
		}
		r := checkSimplify(t, g.bank)
		if x := r.Bank.Terms[r.Bank.Terms[r.To[le]].Kids[1]]; x.Text != "8" {
			t.Errorf("the bound is %s", x.Text)
		}
		if x := g.image(g.op(impl.OpGe, "Bool", g.op(impl.OpAdd, sort, fifty, 50), g.op(impl.OpAdd, sort, fifty, 50))); x.Op != impl.OpGe {
			t.Errorf("51 Monos below: %+v", x)
		}
	}
}

// Parts of NumDigits digits, and of one more.
func TestStage8LongParts(t *testing.T) {
	const n = impl.NumDigits
	most, ten := nines(n), tenTo(n-1)
	for _, sort := range []string{"Int", "Real"} {
		g := numbersBank(t, sort, 2)
		long, great, one, two := g.num(sort, most), g.num(sort, ten), g.num(sort, "1"), g.num(sort, "2")
		longX := g.op(impl.OpMul, sort, long, 0)
		g.linear(longX, true, "0", "0", most)
		g.linear(g.op(impl.OpNeg, sort, longX), true, "0", "0", minus(most))
		g.linear(g.op(impl.OpAdd, sort, longX, 0), false, "")
		g.linear(g.op(impl.OpSub, sort, longX, 0), true, "0", "0", nines(n-1)+"8")
		g.linear(g.op(impl.OpAdd, sort, longX, 0, 1, g.op(impl.OpNeg, sort, 0)), true, "0", "0", most, "1", "1")
		g.linear(g.op(impl.OpAdd, sort, longX, longX, g.op(impl.OpNeg, sort, longX), g.op(impl.OpNeg, sort, longX)), true, "0")
		g.linear(g.op(impl.OpMul, sort, two, longX), false, "")
		g.linear(g.op(impl.OpMul, sort, g.num(sort, "0"), g.op(impl.OpMul, sort, two, longX)), false, "")
		g.linear(g.op(impl.OpAdd, sort, long, one), false, "")
		g.linear(g.op(impl.OpAdd, sort, long, 0, one), false, "")
		g.linear(g.op(impl.OpAdd, sort, long, 0), true, most, "0", "1")
		g.linear(g.op(impl.OpAdd, sort, long, one, g.num(sort, "-1"), 0), true, most, "0", "1")
		g.linear(g.op(impl.OpAdd, sort, g.op(impl.OpAdd, sort, long, one), g.num(sort, "-1")), false, "")
		g.linear(g.op(impl.OpSub, sort, g.op(impl.OpNeg, sort, long), one), false, "")
		g.linear(g.op(impl.OpMul, sort, g.num(sort, "10"), g.op(impl.OpMul, sort, great, 1)), false, "")
		g.linear(g.op(impl.OpMul, sort, g.num(sort, "9"), g.op(impl.OpMul, sort, great, 1)), true, "0", "1", "9"+strings.Repeat("0", n-1))
		checkSimplify(t, g.bank)
	}
	g := numbersBank(t, "Real", 1)
	small, smaller, third := g.num("Real", "1/"+ten), g.num("Real", "1/10"), g.num("Real", "1/3")
	smallX := g.op(impl.OpMul, "Real", small, 0)
	g.linear(smallX, true, "0", "0", "1/"+ten)
	g.linear(g.op(impl.OpMul, "Real", smaller, smallX), false, "")
	g.linear(g.op(impl.OpMul, "Real", third, smallX), true, "0", "0", "1/3"+strings.Repeat("0", n-1))
	g.linear(g.op(impl.OpAdd, "Real", small, third), true, "1"+strings.Repeat("0", n-2)+"3/3"+strings.Repeat("0", n-1))
	g.linear(g.op(impl.OpAdd, "Real", small, g.num("Real", "1/11")), false, "")
	g.linear(g.op(impl.OpAdd, "Real", small, third, g.num("Real", "1/11"), g.num("Real", "-1/11")), true, "1"+strings.Repeat("0", n-2)+"3/3"+strings.Repeat("0", n-1))
	checkSimplify(t, g.bank)
}

// Fifty fractions, whose sum is a short number though most sums on the way are not.
func TestStage8LongWays(t *testing.T) {
	g := numbersBank(t, "Real", 1)
	var parts []int
	for i := range 25 {
		coef := "1/" + nines(impl.NumDigits-2) + strconv.Itoa(11+3*i)
		parts = append(parts, g.op(impl.OpMul, "Real", g.num("Real", coef), 0))
		parts = append(parts, g.op(impl.OpNeg, "Real", parts[2*i]))
	}
	slices.Reverse(parts[:26])
	g.linear(g.op(impl.OpAdd, "Real", parts...), true, "0")
	lacking := slices.Delete(slices.Clone(parts), 40, 41)
	lacking = slices.Delete(lacking, 42, 43)
	g.linear(g.op(impl.OpAdd, "Real", lacking...), false, "")
	checkSimplify(t, g.bank)
}

// Plain kids whose value has a part that is too long stay as they are, and so does what is made of them.
func TestStage8LongPlain(t *testing.T) {
	most, one := nines(impl.NumDigits), "1"
	text := func(real string) string { return strings.ReplaceAll(real, "MOST", most) }
	checkImages(t, [][2]string{
		{text("(+ MOST 0)"), most}, {text("(+ MOST 1)"), text("(+ MOST 1)")}, {text("(+ 1 MOST)"), text("(+ 1 MOST)")}, {text("(- MOST (- 1))"), text("(- MOST (- 1))")}, {text("(- (- MOST) 1)"), text("(- (- MOST) 1)")}, {text("(* 2 MOST)"), text("(* 2 MOST)")}, {text("(- (+ MOST 0))"), text("(- MOST)")}, {text("(- (+ MOST 1))"), text("(- (+ MOST 1))")},
		{text("(<= MOST 1)"), "false"}, {text("(<= (+ MOST 1) 1)"), text("(<= (+ MOST 1) 1)")}, {text("(< (+ MOST 1) (+ MOST 1))"), text("(< (+ MOST 1) (+ MOST 1))")}, {text("(= (+ MOST 1) (+ MOST 1))"), "true"}, {text("(= (+ MOST 1) (+ 1 MOST))"), text("(= (+ MOST 1) (+ 1 MOST))")}, {text("(- (+ MOST 1) 1)"), text("(- (+ MOST 1) 1)")}, {text("(+ MOST 1 (- 1))"), most},
		{text("(+ MOST.0 1.0)"), text("(+ MOST.0 1.0)")}, {text("(* (/ 1.0 MOST.0) (/ 1.0 2.0))"), text("(* (/ 1.0 MOST.0) (/ 1.0 2.0))")}, {text("(* (/ 1.0 MOST.0) 3.0)"), text("(/ 1.0 " + strings.Repeat("3", impl.NumDigits) + ".0)")}, {text("(* MOST.0 (/ 1.0 MOST.0))"), "1.0"}, {text("(+ (/ 1.0 MOST.0) 1.0)"), text("(+ (/ 1.0 MOST.0) 1.0)")}, {text("(+ (/ 1.0 MOST.0) 0.0)"), text("(/ 1.0 MOST.0)")},
		{text("(to_real MOST)"), text("MOST.0")}, {text("(to_real (+ MOST 1))"), text("(to_real (+ MOST 1))")}, {text("(div MOST 1)"), most}, {text("(div (+ MOST 1) 1)"), text("(+ MOST 1)")}, {text("(mod (+ MOST 1) (- 1))"), "0"}, {text("(mod MOST 2)"), one}, {text("(div (- MOST) (- 1))"), most}, {text("(ite p MOST MOST)"), most}, {text("(f (+ MOST 1))"), text("(f (+ MOST 1))")}, {text("(distinct MOST 1)"), "true"},
	})
}

// A Coef or a bound that would be too long: the comparison stays as it is.
func TestStage8LongBounds(t *testing.T) {
	most, tens := nines(impl.NumDigits), tenTo(impl.NumDigits-1)
	text := func(real string) string {
		return strings.ReplaceAll(strings.ReplaceAll(real, "MOST", most), "TENS", tens)
	}
	half := "4" + nines(impl.NumDigits-1)
	var pairs [][2]string
	for _, pair := range [][2]string{
		{"(<= x MOST)", "(<= x MOST)"}, {"(<= x (- MOST))", "(<= x (- MOST))"}, {"(< x (- MOST))", "(< x (- MOST))"}, {"(> (- MOST) x)", "(> (- MOST) x)"}, {"(>= x (- MOST))", "(>= x (- MOST))"}, {"(<= (- MOST) x)", "(<= (- MOST) x)"}, {"(> x (- MOST))", "(not (<= x (- MOST)))"}, {"(> x MOST)", "(not (<= x MOST))"}, {"(< (- MOST) x)", "(not (<= x (- MOST)))"},
		{"(<= (+ x 1) (- MOST))", "(<= (+ 1 x) (- MOST))"}, {"(<= (- x 1) (- MOST))", "(<= x (- " + nines(impl.NumDigits-1) + "8))"}, {"(<= (- x 1) MOST)", "(<= (+ (- 1) x) MOST)"}, {"(< (- x 1) MOST)", "(< (+ (- 1) x) MOST)"}, {"(<= (* 2 x) MOST)", "(<= x " + half + ")"}, {"(< (* 2 x) (- MOST))", "(<= x (- 5" + strings.Repeat("0", impl.NumDigits-1) + "))"}, {"(<= (* MOST x) 1)", "(<= x 0)"}, {"(<= (* MOST x) y)", "(<= (+ (* MOST x) (* (- 1) y)) 0)"}, {"(<= (* MOST x) (- x))", "(<= (* MOST x) (* (- 1) x))"},
		{"(<= r MOST.0)", "(<= r MOST.0)"}, {"(< r (- MOST.0))", "(< r (- MOST.0))"}, {"(>= r (- MOST.0))", "(not (< r (- MOST.0)))"}, {"(<= (* MOST.0 r) 1.0)", "(<= r (/ 1.0 MOST.0))"}, {"(<= (* MOST.0 r) (/ 1.0 2.0))", "(<= (* MOST.0 r) (/ 1.0 2.0))"}, {"(<= (* (/ 1.0 10.0) r) TENS.0)", "(<= (* (/ 1.0 10.0) r) TENS.0)"}, {"(<= (* (/ 1.0 10.0) r) (/ TENS.0 10.0))", "(<= r TENS.0)"},
		{"(< (* MOST.0 r) (* (/ 1.0 2.0) s))", "(< (* MOST.0 r) (* (/ 1.0 2.0) s))"}, {"(< (* MOST.0 r) s)", "(< (+ r (* (/ (- 1.0) MOST.0) s)) 0.0)"}, {"(> (* (/ 1.0 10.0) r) (* TENS.0 s))", "(> (* (/ 1.0 10.0) r) (* TENS.0 s))"}, {"(> (* (/ 1.0 9.0) r) (* TENS.0 s))", "(not (<= (+ r (* (- 9" + strings.Repeat("0", impl.NumDigits-1) + ".0) s)) 0.0))"}, {"(= (+ x MOST) (+ x (- 1)))", "(= (+ MOST x) (+ (- 1) x))"}, {"(= (+ x MOST) (+ x 0))", "false"},
	} {
		pairs = append(pairs, [2]string{text(pair[0]), text(pair[1])})
	}
	checkImages(t, pairs)
}

// A Bank of MaxTerms Terms and of one more: the two that come first count.
func TestStage8ManyTerms(t *testing.T) {
	for n := impl.MaxTerms - 4; n <= impl.MaxTerms; n++ {
		if r := checkSimplify(t, manyTerms(n)); r.Ok != (n+2 <= impl.MaxTerms) {
			t.Errorf("%d numbers: %v", n, r.Ok)
		}
		b := manyTerms(n - 2)
		b.Terms = append(b.Terms, impl.NewBank().Terms...)
		if r := checkSimplify(t, b); !r.Ok || len(r.Bank.Terms) != n {
			t.Errorf("%d numbers, OpTrue and OpFalse: %v, %d terms", n-2, r.Ok, len(r.Bank.Terms))
		}
	}
	if r := checkSimplify(t, manyTerms(impl.MaxTerms+1)); r.Ok {
		t.Error("a bank that is not good")
	}
}

// The bank becomes full at each place in what the rules make on their way.
func TestStage8FullOnTheWay(t *testing.T) {
	for _, text := range []string{"(=> (g x u) (g y u))", "(=> p p)", "(distinct u v (k w) (k z))", "(distinct x (+ x y) (* 3 y) 7)", "(<= (+ (* 2 x) (* 3 y) 5) (* 7 (f x)))", "(>= r (* 0.3 s))", "(- (+ x y 4) (* 3 (f x)))", "(ite p (ite q false p) true)", "(= (+ x 1) (+ 1 x))", "(xor (and p q) p)", "(mod x 1)", "(bvand (bvnot #b0101) w)", "(not (not (not (= p q))))"} {
		b := parsed(t, declaredMix+"(get-value ("+text+"))").Script.Bank
		whole := len(checkSimplify(t, b).Bank.Terms)
		for spare := range whole + 3 {
			full := copied(b)
			full.Terms = nil
			fill := impl.MaxTerms - spare
			for i := range fill {
				full.Terms = append(full.Terms, numeral("Real", strconv.Itoa(i+1)+"/9999991"))
			}
			for _, x := range copied(b).Terms {
				for i := range x.Kids {
					x.Kids[i] += fill
				}
				full.Terms = append(full.Terms, x)
			}
			if len(full.Terms) > impl.MaxTerms {
				continue
			}
			if r := checkSimplify(t, full); r.Ok != (whole <= spare) {
				t.Errorf("%s with %d terms to spare of %d: %v", text, spare, whole, r.Ok)
			}
		}
	}
}

// OpDistinct of MaxKids kids: an equation and its opposite for each pair, and an OpAnd for each kid that has two later ones.
func TestStage8ManyDistinct(t *testing.T) {
	const n = impl.MaxKids
	for _, sort := range []string{"Int", "Real", "U", "(_ BitVec 7)"} {
		b := bankWith(t, slices.Repeat([]string{sort}, n), term(impl.OpDistinct, "Bool", upTo(n)...))
		r := checkSimplify(t, b)
		if image := r.Bank.Terms[r.To[n]]; image.Op != impl.OpAnd || len(image.Kids) != n-1 || len(r.Bank.Terms) != 2+n+n*(n-1)+n-1 {
			t.Errorf("%s: %+v, %d terms", sort, image, len(r.Bank.Terms))
		}
	}
	b := bankWith(t, slices.Repeat([]string{"U"}, n+5), term(impl.OpDistinct, "Bool", upTo(n)...), term(impl.OpDistinct, "Bool", upTo(n + 5)[5:]...))
	if r := checkSimplify(t, b); r.Ok {
		t.Errorf("%d terms", len(r.Bank.Terms))
	}
}

// noBanks are banks that are not good, each for another reason.
func noBanks(t *testing.T) []impl.Bank {
	t.Helper()
	var banks []impl.Bank
	for _, change := range []func(b *impl.Bank){
		func(b *impl.Bank) { b.Terms[3].Op = 99 }, func(b *impl.Bank) { b.Terms[3].Op = 0 }, func(b *impl.Bank) { b.Terms[3].Op = -1 }, func(b *impl.Bank) { b.Terms[0].Sort = "Int" }, func(b *impl.Bank) { b.Terms[1] = b.Terms[0] }, func(b *impl.Bank) { b.Terms[0].Kids = []int{0} },
		func(b *impl.Bank) { b.Terms[len(b.Terms)-1].Kids = []int{len(b.Terms) - 1, 0} }, func(b *impl.Bank) { b.Terms[len(b.Terms)-1].Kids[0] = -1 }, func(b *impl.Bank) { b.Terms[len(b.Terms)-1].Kids[0] = 1 << 40 }, func(b *impl.Bank) { b.Sorts = nil }, func(b *impl.Bank) { b.Sorts = []string{"U", "U"} },
		func(b *impl.Bank) { b.Funs[0].Sort = "Int" }, func(b *impl.Bank) { b.Funs[1].Name = b.Funs[0].Name }, func(b *impl.Bank) { b.Terms = append(b.Terms, impl.Term{}) }, func(b *impl.Bank) { b.Terms = append(b.Terms, constant("nobody", "Int")) }, func(b *impl.Bank) { b.Terms = append(b.Terms, numeral("Int", nines(impl.NumDigits+1))) },
		func(b *impl.Bank) { b.Terms = append(b.Terms, numeral("Int", "1/2")) }, func(b *impl.Bank) { b.Terms = append(b.Terms, numeral("Int", "007")) }, func(b *impl.Bank) { b.Terms = append(b.Terms, term(impl.OpAdd, "Int", 0, 1)) }, func(b *impl.Bank) { b.Terms = append(b.Terms, term(impl.OpAdd, "Int")) },
	} {
		b := copied(bankMix(t))
		change(&b)
		if impl.GoodBank(b) {
			t.Fatalf("a good bank: %+v", b)
		}
		banks = append(banks, b)
	}
	return append(banks, manyTerms(impl.MaxTerms+1))
}

// Banks that are not good, and indexes of no term or of one that is no number.
func TestStage8WrongInputs(t *testing.T) {
	for _, b := range noBanks(t) {
		if r := checkSimplify(t, b); r.Ok {
			t.Errorf("%s is simplified", shortBank(b))
		}
		for id := -1; id <= min(len(b.Terms), 40); id++ {
			if l := checkLinear(t, b, id); l.Ok {
				t.Errorf("%s: term %d is a sum", shortBank(b), id)
			}
		}
	}
	b := bankMix(t)
	numbers := 0
	for _, id := range append(upTo(len(b.Terms)), -1, -2, len(b.Terms), len(b.Terms)+1, 1<<62, 1<<63-1, -1<<63) {
		isNumber := id >= 0 && id < len(b.Terms) && (b.Terms[id].Sort == "Int" || b.Terms[id].Sort == "Real")
		if l := checkLinear(t, b, id); l.Ok != isNumber {
			t.Errorf("term %d: %v", id, l)
		}
		if isNumber {
			numbers++
		}
	}
	if numbers < 4 {
		t.Errorf("%d numbers", numbers)
	}
	for _, id := range []int{-1, 0, 1} {
		checkLinear(t, impl.Bank{}, id)
	}
}

// Banks without terms keep their names; OpTrue and OpFalse may stand anywhere, or not at all.
func TestStage8SmallBanks(t *testing.T) {
	for _, b := range []impl.Bank{{}, {Sorts: []string{}, Funs: []impl.Fun{}, Terms: []impl.Term{}}, impl.NewBank(), {Terms: []impl.Term{term(impl.OpFalse, "Bool"), term(impl.OpTrue, "Bool"), term(impl.OpXor, "Bool", 0, 1)}}, {Sorts: []string{"U", "a b"}, Funs: []impl.Fun{{Name: "f", Args: []string{"U", "|a b|"}, Sort: "Bool"}}}, manyNames(150, 150)} {
		if r := checkSimplify(t, b); !r.Ok || len(r.Bank.Terms) != 2 || len(r.Bank.Sorts) != len(b.Sorts) || len(r.Bank.Funs) != len(b.Funs) {
			t.Errorf("%+v: %+v", b, r)
		}
	}
}

// The lists of one answer share no memory with each other either.
func TestStage8OwnMemory(t *testing.T) {
	b := parsed(t, declaredMix+"(get-value ((<= (+ x y) (* 2 x)) (distinct u v (k w)) (and p q)))").Script.Bank
	want := checkSimplify(t, b)
	for i := range want.Bank.Terms {
		r := impl.Simplify(b)
		kids := r.Bank.Terms[i].Kids
		for j := range kids[:cap(kids)] {
			kids[:cap(kids)][j] = -9
		}
		r.Bank.Terms[i].Kids = want.Bank.Terms[i].Kids
		if !sameBank(r.Bank, want.Bank) || !slices.Equal(r.To, want.To) {
			t.Errorf("the kids of term %d are shared", i)
		}
	}
	first, second := impl.LinearOf(b, want.To[4]), impl.LinearOf(b, want.To[4])
	for i := range first.Monos[:cap(first.Monos)] {
		first.Monos[:cap(first.Monos)][i] = impl.Mono{}
	}
	if len(second.Monos) == 0 || !slices.Equal(second.Monos, impl.LinearOf(b, want.To[4]).Monos) {
		t.Errorf("two sums share memory: %v", second)
	}
}

// Sums of sums, each used twice in the next: what is looked at is looked at once.
func TestStage8SharedSums(t *testing.T) {
	b := bankWith(t, []string{"Int", "Real"})
	for range 1400 {
		n := len(b.Terms)
		b.Terms = append(b.Terms, term(impl.OpSub, "Int", n-2, n-2), term(impl.OpAdd, "Real", n-1, n-1, 1))
	}
	if !impl.GoodBank(b) {
		t.Fatal("the bank is good")
	}
	checkSimplify(t, b)
	checkLinear(t, b, len(b.Terms)-1)
	checkLinear(t, b, len(b.Terms)-2)
}
