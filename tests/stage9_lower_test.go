package tests

import (
	"slices"
	"testing"

	"loop.example/g00007/impl"
)

// A loweredRow is some assertions, the images of what they assert, and the texts of Roots and of Shared.
type loweredRow struct {
	text   string
	images []string
	roots  []string
	shared []string
}

// asBounds is what is required of an OpEq of two numbers.
func asBounds(a, b string) string {
	return "(= (= " + a + " " + b + ") (and (<= " + a + " " + b + ") (<= " + b + " " + a + ")))"
}

// lowerText lowers a script by all of its assertions.
func lowerText(t *testing.T, text string) (plainLowered, []int) {
	t.Helper()
	r := parsed(t, text)
	if r.Err != impl.LangOk {
		t.Fatalf("%s: Err %d at %d", text, r.Err, r.At)
	}
	var roots []int
	for _, c := range r.Script.Commands {
		roots = append(roots, c.Ids...)
	}
	l := checkLower(t, r.Script.Bank, roots...)
	if !l.Ok {
		t.Fatalf("%s: not Ok", text)
	}
	var images []int
	for _, root := range roots {
		images = append(images, l.To[root])
	}
	return l, images
}

// asserted writes an assertion for each text.
func asserted(texts ...string) string {
	all := ""
	for _, text := range texts {
		all += "(assert " + text + ")"
	}
	return all
}

func checkRows(t *testing.T, declared string, rows []loweredRow) {
	t.Helper()
	for _, row := range rows {
		l, images := lowerText(t, declared+row.text)
		if got := textsOf(l.Bank, images); !slices.Equal(got, row.images) {
			t.Errorf("%s: images\n%q, want\n%q", row.text, got, row.images)
		}
		if got := textsOf(l.Bank, l.Roots); !slices.Equal(got, row.roots) {
			t.Errorf("%s: roots\n%q, want\n%q", row.text, got, row.roots)
		}
		if got := textsOf(l.Bank, l.Shared); !slices.Equal(got, row.shared) {
			t.Errorf("%s: shared\n%q, want\n%q", row.text, got, row.shared)
		}
	}
}

func TestStage9Choice(t *testing.T) {
	half := "(/ 1.0 2.0)"
	checkRows(t, declaredMix, []loweredRow{
		{asserted("(< x (ite p y 3))"), []string{"(< x .0)"}, []string{asBounds(".0", "y"), "(or (not p) (= .0 y))", asBounds(".0", "3"), "(or p (= .0 3))"}, nil},
		{asserted("(= x (ite p y 3))"), []string{"(= x .0)"}, []string{asBounds(".0", "y"), "(or (not p) (= .0 y))", asBounds(".0", "3"), "(or p (= .0 3))", asBounds("x", ".0")}, nil},
		{asserted("(< r (ite q s 0.5))"), []string{"(< r .0)"}, []string{asBounds(".0", "s"), "(or (not q) (= .0 s))", asBounds(".0", half), "(or q (= .0 " + half + "))"}, nil},
		{asserted("(bvult w (ite p z #b0001))"), []string{"(bvult w .0)"}, []string{"(or (not p) (= .0 z))", "(or p (= .0 #b0001))"}, nil},
		{asserted("(= u (ite p u v))"), []string{"(= u .0)"}, []string{"(or (not p) (= .0 u))", "(or p (= .0 v))"}, nil},
		{asserted("(ite p q (< x y))"), []string{"(ite p q (< x y))"}, nil, nil},
		{asserted("(ite (ite p q p) p q)"), []string{"(ite (ite p q p) p q)"}, nil, nil},
		{asserted("(= u (ite p (ite q u v) v))"), []string{"(= u .1)"}, []string{"(or (not q) (= .0 u))", "(or q (= .0 v))", "(or (not p) (= .1 .0))", "(or p (= .1 v))"}, nil},
		{asserted("(= u (ite (= v (ite q u v)) v u))"), []string{"(= u .1)"}, []string{"(or (not q) (= .0 u))", "(or q (= .0 v))", "(or (not (= v .0)) (= .1 v))", "(or (= v .0) (= .1 u))"}, nil},
		{asserted("(= (ite p u v) (ite p v u))"), []string{"(= .0 .1)"}, []string{"(or (not p) (= .0 u))", "(or p (= .0 v))", "(or (not p) (= .1 v))", "(or p (= .1 u))"}, nil},
		{asserted("(= (ite p u v) (ite p u v))"), []string{"(= .0 .0)"}, []string{"(or (not p) (= .0 u))", "(or p (= .0 v))"}, nil},
		{asserted("(= u (ite p v v))"), []string{"(= u .0)"}, []string{"(or (not p) (= .0 v))", "(or p (= .0 v))"}, nil},
		{asserted("(= u (ite true v u))"), []string{"(= u .0)"}, []string{"(or (not true) (= .0 v))", "(or true (= .0 u))"}, nil},
		{asserted("(= u (ite (not p) v u))"), []string{"(= u .0)"}, []string{"(or (not (not p)) (= .0 v))", "(or (not p) (= .0 u))"}, nil},
		{asserted("(= u (ite p u v))", "(= v (ite q u v))", "(= v (ite p u v))"), []string{"(= u .0)", "(= v .1)", "(= v .0)"}, []string{"(or (not p) (= .0 u))", "(or p (= .0 v))", "(or (not q) (= .1 u))", "(or q (= .1 v))"}, nil},
		{asserted("(< (f (ite p x y)) 3)"), []string{"(< (f .0) 3)"}, []string{asBounds(".0", "x"), "(or (not p) (= .0 x))", asBounds(".0", "y"), "(or p (= .0 y))"}, nil},
	})
}

func TestStage9Quotients(t *testing.T) {
	most, tens := nines(impl.NumDigits), tenTo(impl.NumDigits-1)
	x3 := []string{"(<= (* 3 .0) x)", "(<= x (+ (* 3 .0) 2))"}
	checkRows(t, declaredMix, []loweredRow{
		{asserted("(< (div x 3) y)"), []string{"(< .0 y)"}, x3, nil},
		{asserted("(< (mod x 3) y)"), []string{"(< (+ x (* (- 3) .0)) y)"}, x3, nil},
		{asserted("(< (mod x 3) (div x 3))"), []string{"(< (+ x (* (- 3) .0)) .0)"}, x3, nil},
		{asserted("(< (div x 3) (mod x 3))"), []string{"(< .0 (+ x (* (- 3) .0)))"}, x3, nil},
		{asserted("(< (div x 3) 1)", "(< (mod x 3) 2)", "(> (div x 3) (- 5))"), []string{"(< .0 1)", "(< (+ x (* (- 3) .0)) 2)", "(> .0 (- 5))"}, x3, nil},
		{asserted("(= (div x 3) (div x 4))"), []string{"(= .0 .1)"}, append(slices.Clone(x3), "(<= (* 4 .1) x)", "(<= x (+ (* 4 .1) 3))", asBounds(".0", ".1")), nil},
		{asserted("(< (div x 3) (mod y 3))"), []string{"(< .0 (+ y (* (- 3) .1)))"}, append(slices.Clone(x3), "(<= (* 3 .1) y)", "(<= y (+ (* 3 .1) 2))"), nil},
		{asserted("(< (div x 3) (mod x (- 3)))"), []string{"(< .0 (+ x (* 3 .1)))"}, append(slices.Clone(x3), "(<= (* (- 3) .1) x)", "(<= x (+ (* (- 3) .1) 2))"), nil},
		{asserted("(< (div x (- 3)) y)"), []string{"(< .0 y)"}, []string{"(<= (* (- 3) .0) x)", "(<= x (+ (* (- 3) .0) 2))"}, nil},
		{asserted("(< (mod x (- 3)) y)"), []string{"(< (+ x (* 3 .0)) y)"}, []string{"(<= (* (- 3) .0) x)", "(<= x (+ (* (- 3) .0) 2))"}, nil},
		{asserted("(< (div x 1) y)"), []string{"(< .0 y)"}, []string{"(<= (* 1 .0) x)", "(<= x (+ (* 1 .0) 0))"}, nil},
		{asserted("(< (mod x 1) y)"), []string{"(< (+ x (* (- 1) .0)) y)"}, []string{"(<= (* 1 .0) x)", "(<= x (+ (* 1 .0) 0))"}, nil},
		{asserted("(< (div x (- 1)) y)"), []string{"(< .0 y)"}, []string{"(<= (* (- 1) .0) x)", "(<= x (+ (* (- 1) .0) 0))"}, nil},
		{asserted("(< (mod x (- 1)) y)"), []string{"(< (+ x (* 1 .0)) y)"}, []string{"(<= (* (- 1) .0) x)", "(<= x (+ (* (- 1) .0) 0))"}, nil},
		{asserted("(< (div x 10) y)"), []string{"(< .0 y)"}, []string{"(<= (* 10 .0) x)", "(<= x (+ (* 10 .0) 9))"}, nil},
		{asserted("(< (div 7 2) y)"), []string{"(< .0 y)"}, []string{"(<= (* 2 .0) 7)", "(<= 7 (+ (* 2 .0) 1))"}, nil},
		{asserted("(< (div 2 2) y)"), []string{"(< .0 y)"}, []string{"(<= (* 2 .0) 2)", "(<= 2 (+ (* 2 .0) 1))"}, nil},
		{asserted("(< (div (div x 3) 2) y)"), []string{"(< .1 y)"}, append(slices.Clone(x3), "(<= (* 2 .1) .0)", "(<= .0 (+ (* 2 .1) 1))"), nil},
		{asserted("(< (mod (mod x 3) 2) y)"), []string{"(< (+ (+ x (* (- 3) .0)) (* (- 2) .1)) y)"}, append(slices.Clone(x3), "(<= (* 2 .1) (+ x (* (- 3) .0)))", "(<= (+ x (* (- 3) .0)) (+ (* 2 .1) 1))"), nil},
		{asserted("(< (div (ite p x y) 2) (div x 2))"), []string{"(< .1 .2)"}, []string{asBounds(".0", "x"), "(or (not p) (= .0 x))", asBounds(".0", "y"), "(or p (= .0 y))", "(<= (* 2 .1) .0)", "(<= .0 (+ (* 2 .1) 1))", "(<= (* 2 .2) x)", "(<= x (+ (* 2 .2) 1))"}, nil},
		{asserted("(< (div x " + most + ") y)"), []string{"(< .0 y)"}, []string{"(<= (* " + most + " .0) x)", "(<= x (+ (* " + most + " .0) " + nines(impl.NumDigits-1) + "8))"}, nil},
		{asserted("(< (mod x (- " + most + ")) y)"), []string{"(< (+ x (* " + most + " .0)) y)"}, []string{"(<= (* (- " + most + ") .0) x)", "(<= x (+ (* (- " + most + ") .0) " + nines(impl.NumDigits-1) + "8))"}, nil},
		{asserted("(< (mod x " + tens + ") y)"), []string{"(< (+ x (* (- " + tens + ") .0)) y)"}, []string{"(<= (* " + tens + " .0) x)", "(<= x (+ (* " + tens + " .0) " + nines(impl.NumDigits-1) + "))"}, nil},
	})
}

func TestStage9Distinct(t *testing.T) {
	checkRows(t, declaredMix, []loweredRow{
		{asserted("(distinct u v)"), []string{"(not (= u v))"}, nil, nil},
		{asserted("(distinct v u)"), []string{"(not (= v u))"}, nil, nil},
		{asserted("(distinct u u)"), []string{"(not (= u u))"}, nil, nil},
		{asserted("(distinct p q)"), []string{"(not (= p q))"}, nil, nil},
		{asserted("(distinct p q true)"), []string{"(and (and (not (= p q)) (not (= p true))) (not (= q true)))"}, nil, nil},
		{asserted("(distinct w z)"), []string{"(not (= w z))"}, nil, nil},
		{asserted("(distinct u v (k w))"), []string{"(and (and (not (= u v)) (not (= u (k w)))) (not (= v (k w))))"}, nil, nil},
		{asserted("(distinct #b00 #b01 #b10 #b11)"), []string{"(and (and (and (and (and (not (= #b00 #b01)) (not (= #b00 #b10))) (not (= #b00 #b11))) (not (= #b01 #b10))) (not (= #b01 #b11))) (not (= #b10 #b11)))"}, nil, nil},
		{asserted("(distinct u u u)"), []string{"(and (and (not (= u u)) (not (= u u))) (not (= u u)))"}, nil, nil},
		{asserted("(distinct x y)"), []string{"(not (= x y))"}, []string{asBounds("x", "y")}, nil},
		{asserted("(distinct r s 1.5)"), []string{"(and (and (not (= r s)) (not (= r (/ 3.0 2.0)))) (not (= s (/ 3.0 2.0))))"}, []string{asBounds("r", "s"), asBounds("r", "(/ 3.0 2.0)"), asBounds("s", "(/ 3.0 2.0)")}, nil},
		{asserted("(distinct x y x)"), []string{"(and (and (not (= x y)) (not (= x x))) (not (= y x)))"}, []string{asBounds("x", "y"), asBounds("x", "x"), asBounds("y", "x")}, nil},
		{asserted("(distinct (div x 2) (ite p x 4))"), []string{"(not (= .0 .1))"}, []string{"(<= (* 2 .0) x)", "(<= x (+ (* 2 .0) 1))", asBounds(".1", "x"), "(or (not p) (= .1 x))", asBounds(".1", "4"), "(or p (= .1 4))", asBounds(".0", ".1")}, nil},
	})
}

// An OpEq of two numbers is said by bounds the first time that it is made, whoever makes it; others never are.
func TestStage9Equations(t *testing.T) {
	checkRows(t, declaredMix, []loweredRow{
		{asserted("(= x y)"), []string{"(= x y)"}, []string{asBounds("x", "y")}, nil},
		{asserted("(= x x)"), []string{"(= x x)"}, []string{asBounds("x", "x")}, nil},
		{asserted("(= x 3)"), []string{"(= x 3)"}, []string{asBounds("x", "3")}, nil},
		{asserted("(= r s)"), []string{"(= r s)"}, []string{asBounds("r", "s")}, nil},
		{asserted("(= (to_real x) s)"), []string{"(= (to_real x) s)"}, []string{asBounds("(to_real x)", "s")}, nil},
		{asserted("(= w z)"), []string{"(= w z)"}, nil, nil},
		{asserted("(= u v)"), []string{"(= u v)"}, nil, nil},
		{asserted("(= p q)"), []string{"(= p q)"}, nil, nil},
		{asserted("(= p (= x y))"), []string{"(= p (= x y))"}, []string{asBounds("x", "y")}, nil},
		{asserted("(= x y)", "(= x y)", "(not (= x y))"), []string{"(= x y)", "(= x y)", "(not (= x y))"}, []string{asBounds("x", "y")}, nil},
		{asserted("(= x y)", "(= y x)"), []string{"(= x y)", "(= y x)"}, []string{asBounds("x", "y"), asBounds("y", "x")}, nil},
		{asserted("(= x y)", "(distinct x y)"), []string{"(= x y)", "(not (= x y))"}, []string{asBounds("x", "y")}, nil},
		{asserted("(distinct x y)", "(= x y)"), []string{"(not (= x y))", "(= x y)"}, []string{asBounds("x", "y")}, nil},
		{asserted("(distinct x y 3)", "(distinct y 3)", "(distinct 3 x)"), []string{"(and (and (not (= x y)) (not (= x 3))) (not (= y 3)))", "(not (= y 3))", "(not (= 3 x))"}, []string{asBounds("x", "y"), asBounds("x", "3"), asBounds("y", "3"), asBounds("3", "x")}, nil},
		{asserted(asBounds("x", "y"), "(= x y)"), []string{asBounds("x", "y"), "(= x y)"}, []string{asBounds("x", "y")}, nil},
		{asserted("(= (ite p x y) x)", "(= (ite p x y) y)"), []string{"(= .0 x)", "(= .0 y)"}, []string{asBounds(".0", "x"), "(or (not p) (= .0 x))", asBounds(".0", "y"), "(or p (= .0 y))"}, nil},
	})
}

// All terms but OpTrue and OpFalse, in their order: kids from the left, ahead of their term, and what is required of an OpEq
// as soon as it is made.
func TestStage9OrderOfTerms(t *testing.T) {
	for _, row := range [][]string{
		{asserted("(= x y)"), "x", "y", "(= x y)", "(<= x y)", "(<= y x)", "(and (<= x y) (<= y x))", asBounds("x", "y")},
		{asserted("(= x x)"), "x", "(= x x)", "(<= x x)", "(and (<= x x) (<= x x))", asBounds("x", "x")},
		{asserted("(bvult w (ite p w z))"), "w", "p", "z", ".0", "(not p)", "(= .0 w)", "(or (not p) (= .0 w))", "(= .0 z)", "(or p (= .0 z))", "(bvult w .0)"},
		{asserted("(< x (ite p y 3))"), "x", "p", "y", "3", ".0", "(not p)", "(= .0 y)", "(<= .0 y)", "(<= y .0)", "(and (<= .0 y) (<= y .0))", asBounds(".0", "y"), "(or (not p) (= .0 y))", "(= .0 3)", "(<= .0 3)", "(<= 3 .0)", "(and (<= .0 3) (<= 3 .0))", asBounds(".0", "3"), "(or p (= .0 3))", "(< x .0)"},
		{asserted("(< (div x 3) y)"), "x", "3", ".0", "(* 3 .0)", "(<= (* 3 .0) x)", "2", "(+ (* 3 .0) 2)", "(<= x (+ (* 3 .0) 2))", "y", "(< .0 y)"},
		{asserted("(< (mod x 3) y)"), "x", "3", ".0", "(* 3 .0)", "(<= (* 3 .0) x)", "2", "(+ (* 3 .0) 2)", "(<= x (+ (* 3 .0) 2))", "(- 3)", "(* (- 3) .0)", "(+ x (* (- 3) .0))", "y", "(< (+ x (* (- 3) .0)) y)"},
		{asserted("(distinct u v (k w))"), "u", "v", "w", "(k w)", "(= u v)", "(not (= u v))", "(= u (k w))", "(not (= u (k w)))", "(and (not (= u v)) (not (= u (k w))))", "(= v (k w))", "(not (= v (k w)))", "(and (and (not (= u v)) (not (= u (k w)))) (not (= v (k w))))"},
		{asserted("(distinct x y)"), "x", "y", "(= x y)", "(<= x y)", "(<= y x)", "(and (<= x y) (<= y x))", asBounds("x", "y"), "(not (= x y))"},
		{asserted("(< (f x) (f y))"), "x", "(f x)", "y", "(f y)", "(< (f x) (f y))", "(= x y)", "(<= x y)", "(<= y x)", "(and (<= x y) (<= y x))", asBounds("x", "y"), "(= (f x) (f y))", "(<= (f x) (f y))", "(<= (f y) (f x))", "(and (<= (f x) (f y)) (<= (f y) (f x)))", asBounds("(f x)", "(f y)")},
	} {
		l, _ := lowerText(t, declaredMix+row[0])
		if got := textsOf(l.Bank, upTo(len(l.Bank.Terms))[2:]); !slices.Equal(got, row[1:]) {
			t.Errorf("%s:\n%q, want\n%q", row[0], got, row[1:])
		}
	}
}

// declaredArrays has arrays over own sorts, so that little is shared, and over Int.
const declaredArrays = `(declare-sort U 0)(declare-const m (Array U U))(declare-const n (Array U U))(declare-const o (Array Int U))(declare-const e (Array U Int))
(declare-const i U)(declare-const j U)(declare-const k U)(declare-const x Int)(declare-const y Int)(declare-const p Bool)`

func TestStage9Arrays(t *testing.T) {
	store, twice := "(store m i j)", "(store (store m i j) j k)"
	checkRows(t, declaredArrays, []loweredRow{
		{asserted("(= (select m i) j)"), []string{"(= (select m i) j)"}, nil, nil},
		{asserted("(= (select " + store + " j) i)"), []string{"(= (select " + store + " j) i)"}, []string{"(= (select " + store + " i) j)", "(or (= j i) (= (select " + store + " j) (select m j)))"}, nil},
		{asserted("(= (select " + store + " i) j)"), []string{"(= (select " + store + " i) j)"}, []string{"(= (select " + store + " i) j)"}, nil},
		{asserted("(= (select " + twice + " k) i)"), []string{"(= (select " + twice + " k) i)"}, []string{
			"(= (select " + store + " i) j)", "(or (= j i) (= (select " + store + " j) (select m j)))", "(or (= k i) (= (select " + store + " k) (select m k)))",
			"(= (select " + twice + " j) k)", "(or (= i j) (= (select " + twice + " i) (select " + store + " i)))", "(or (= k j) (= (select " + twice + " k) (select " + store + " k)))"}, nil},
		{asserted("(= (select (store m (select m i) i) i) j)"), []string{"(= (select (store m (select m i) i) i) j)"}, []string{"(= (select (store m (select m i) i) (select m i)) i)", "(or (= i (select m i)) (= (select (store m (select m i) i) i) (select m i)))"}, nil},
		{asserted("(= m n)"), []string{"(= m n)"}, []string{"(or (= m n) (not (= (select m .0) (select n .0))))"}, nil},
		{asserted("(= m m)"), []string{"(= m m)"}, []string{"(or (= m m) (not (= (select m .0) (select m .0))))"}, nil},
		{asserted("(= m n)", "(= n m)"), []string{"(= m n)", "(= n m)"}, []string{"(or (= m n) (not (= (select m .0) (select n .0))))", "(or (= n m) (not (= (select n .1) (select m .1))))"}, nil},
		{asserted("(distinct m n)"), []string{"(not (= m n))"}, []string{"(or (= m n) (not (= (select m .0) (select n .0))))"}, nil},
		{asserted("(= n " + store + ")"), []string{"(= n " + store + ")"}, []string{"(or (= n " + store + ") (not (= (select n .0) (select " + store + " .0))))", "(= (select " + store + " i) j)", "(or (= .0 i) (= (select " + store + " .0) (select m .0)))"}, nil},
		{asserted("(= m (ite p m n))"), []string{"(= m .0)"}, []string{"(or (not p) (= .0 m))", "(or p (= .0 n))", "(or (= .0 m) (not (= (select .0 .1) (select m .1))))", "(or (= .0 n) (not (= (select .0 .2) (select n .2))))", "(or (= m .0) (not (= (select m .3) (select .0 .3))))"}, nil},
		{asserted("(= (select (ite p m n) i) j)"), []string{"(= (select .0 i) j)"}, []string{"(or (not p) (= .0 m))", "(or p (= .0 n))", "(or (= .0 m) (not (= (select .0 .1) (select m .1))))", "(or (= .0 n) (not (= (select .0 .2) (select n .2))))"}, nil},
		// The indexes come in the order of their own numbers, not of their uses: j, i, k.
		{asserted("(= j (select (store n i k) i))", "(= (select m k) (select m j))"), []string{"(= j (select (store n i k) i))", "(= (select m k) (select m j))"}, []string{"(= (select (store n i k) i) k)", "(or (= j i) (= (select (store n i k) j) (select n j)))", "(or (= k i) (= (select (store n i k) k) (select n k)))"}, nil},
		// The indexes of other sorts of arrays are others.
		{asserted("(= (select " + store + " (select o x)) j)"), []string{"(= (select " + store + " (select o x)) j)"}, []string{"(= (select " + store + " i) j)", "(or (= (select o x) i) (= (select " + store + " (select o x)) (select m (select o x))))"}, nil},
		{asserted("(= (select (store o x i) y) j)"), []string{"(= (select (store o x i) y) j)"}, []string{"(= (select (store o x i) x) i)", asBounds("y", "x"), "(or (= y x) (= (select (store o x i) y) (select o y)))", asBounds("x", "y")}, []string{"(= y x)", "(= x y)"}},
		{asserted("(= y x)", "(= (select (store o x i) y) j)"), []string{"(= y x)", "(= (select (store o x i) y) j)"}, []string{asBounds("y", "x"), "(= (select (store o x i) x) i)", "(or (= y x) (= (select (store o x i) y) (select o y)))"}, []string{"(= y x)"}},
		{asserted("(< (select (store e i x) i) 3)"), []string{"(< (select (store e i x) i) 3)"}, []string{asBounds("(select (store e i x) i)", "x"), "(= (select (store e i x) i) x)", asBounds("(select (store e i x) i)", "(select e i)")}, []string{"(= (select (store e i x) i) (select e i))"}},
	})
}

// Of each array, each index of its sort is selected, whether anything asks for it or not.
func TestStage9Selects(t *testing.T) {
	for _, row := range [][]string{
		{asserted("(= (select m i) (select n j))"), "m", "i", "(select m i)", "n", "j", "(select n j)", "(= (select m i) (select n j))", "(select m j)", "(select n i)"},
		{asserted("(= (select m j) (select n i))", "(= i j)"), "m", "j", "(select m j)", "n", "i", "(select n i)", "(= (select m j) (select n i))", "(= i j)", "(select m i)", "(select n j)"},
		{asserted("(= m n)"), "m", "n", "(= m n)", ".0", "(select m .0)", "(select n .0)", "(= (select m .0) (select n .0))", "(not (= (select m .0) (select n .0)))", "(or (= m n) (not (= (select m .0) (select n .0))))"},
		{asserted("(= (select (store m i j) j) k)"), "m", "i", "j", "(store m i j)", "(select (store m i j) j)", "k", "(= (select (store m i j) j) k)", "(select m i)", "(select m j)", "(select (store m i j) i)", "(= (select (store m i j) i) j)", "(= j i)", "(= (select (store m i j) j) (select m j))", "(or (= j i) (= (select (store m i j) j) (select m j)))"},
		{asserted("(= m n)", "(= (select m i) j)"), "m", "n", "(= m n)", "i", "(select m i)", "j", "(= (select m i) j)", ".0", "(select m .0)", "(select n .0)", "(= (select m .0) (select n .0))", "(not (= (select m .0) (select n .0)))", "(or (= m n) (not (= (select m .0) (select n .0))))", "(select n i)"},
		{asserted("(= (select e i) (select e j))", "(= (select m k) k)"), "e", "i", "(select e i)", "j", "(select e j)", "(= (select e i) (select e j))", "(<= (select e i) (select e j))", "(<= (select e j) (select e i))", "(and (<= (select e i) (select e j)) (<= (select e j) (select e i)))", asBounds("(select e i)", "(select e j)"), "m", "k", "(select m k)", "(= (select m k) k)"},
	} {
		l, _ := lowerText(t, declaredArrays+row[0])
		if got := textsOf(l.Bank, upTo(len(l.Bank.Terms))[2:]); !slices.Equal(got, row[1:]) {
			t.Errorf("%s:\n%q, want\n%q", row[0], got, row[1:])
		}
	}
}

func TestStage9Shared(t *testing.T) {
	checkRows(t, declaredMix+"(declare-const b (Array Int Int))(declare-const d (Array Int Real))(declare-fun l (U U) U)(declare-fun n (Int Int) U)", []loweredRow{
		{asserted("(= (f x) (f y))"), []string{"(= (f x) (f y))"}, []string{asBounds("(f x)", "(f y)"), asBounds("x", "y")}, []string{"(= x y)", "(= (f x) (f y))"}},
		{asserted("(= (f y) (f x))"), []string{"(= (f y) (f x))"}, []string{asBounds("(f y)", "(f x)"), asBounds("y", "x")}, []string{"(= y x)", "(= (f y) (f x))"}},
		{asserted("(< (f y) (f x))"), []string{"(< (f y) (f x))"}, []string{asBounds("y", "x"), asBounds("(f y)", "(f x)")}, []string{"(= y x)", "(= (f y) (f x))"}},
		{asserted("(< x y)", "(< (f y) (f x))"), []string{"(< x y)", "(< (f y) (f x))"}, []string{asBounds("y", "x"), asBounds("(f y)", "(f x)")}, []string{"(= y x)", "(= (f y) (f x))"}},
		{asserted("(< (+ (f x) (f y)) (f 3))"), []string{"(< (+ (f x) (f y)) (f 3))"}, []string{asBounds("x", "y"), asBounds("(f x)", "(f y)"), asBounds("x", "3"), asBounds("(f x)", "(f 3)"), asBounds("y", "3"), asBounds("(f y)", "(f 3)")}, []string{"(= x y)", "(= (f x) (f y))", "(= x 3)", "(= (f x) (f 3))", "(= y 3)", "(= (f y) (f 3))"}},
		{asserted("(= x y)", "(< (f x) (f y))"), []string{"(= x y)", "(< (f x) (f y))"}, []string{asBounds("x", "y"), asBounds("(f x)", "(f y)")}, []string{"(= x y)", "(= (f x) (f y))"}},
		{asserted("(= y x)", "(< (f x) (f y))"), []string{"(= y x)", "(< (f x) (f y))"}, []string{asBounds("y", "x"), asBounds("x", "y"), asBounds("(f x)", "(f y)")}, []string{"(= x y)", "(= (f x) (f y))"}},
		{asserted("(distinct x y)", "(= (f x) (f y))"), []string{"(not (= x y))", "(= (f x) (f y))"}, []string{asBounds("x", "y"), asBounds("(f x)", "(f y)")}, []string{"(= x y)", "(= (f x) (f y))"}},
		{asserted("(< (f (f x)) x)"), []string{"(< (f (f x)) x)"}, []string{asBounds("x", "(f x)"), asBounds("(f x)", "(f (f x))")}, []string{"(= x (f x))", "(= (f x) (f (f x)))"}},
		// Each is there once, however many pairs ask for it and whether or not it was made ahead of them.
		{asserted("(< (f x) (f y))", "(= (n (f x) y) (n (f y) y))"), []string{"(< (f x) (f y))", "(= (n (f x) y) (n (f y) y))"}, []string{asBounds("x", "y"), asBounds("(f x)", "(f y)")}, []string{"(= x y)", "(= (f x) (f y))"}},
		{asserted("(= (n (f x) y) (n (f y) y))", "(= (f x) (f y))"), []string{"(= (n (f x) y) (n (f y) y))", "(= (f x) (f y))"}, []string{asBounds("(f x)", "(f y)"), asBounds("x", "y")}, []string{"(= x y)", "(= (f x) (f y))"}},
		{asserted("(= (n (f x) (f y)) (n (f y) (f x)))"), []string{"(= (n (f x) (f y)) (n (f y) (f x)))"}, []string{asBounds("x", "y"), asBounds("(f x)", "(f y)"), asBounds("(f y)", "(f x)")}, []string{"(= x y)", "(= (f x) (f y))", "(= (f y) (f x))"}},
		{asserted("(= (f 3) (ite p x y))", "(< (f x) 0)", "(g x u)", "(g 3 v)"), []string{"(= (f 3) .0)", "(< (f x) 0)", "(g x u)", "(g 3 v)"}, []string{asBounds(".0", "x"), "(or (not p) (= .0 x))", asBounds(".0", "y"), "(or p (= .0 y))", asBounds("(f 3)", ".0"), asBounds("3", "x"), asBounds("(f 3)", "(f x)"), asBounds("x", "3")}, []string{"(= 3 x)", "(= (f 3) (f x))", "(= x 3)"}},
		{asserted("(= w z)", "(= (k w) (k z))", "(= (h r w x) (h r z x))"), []string{"(= w z)", "(= (k w) (k z))", "(= (h r w x) (h r z x))"}, []string{asBounds("(h r w x)", "(h r z x)")}, []string{"(= w z)", "(= (h r w x) (h r z x))"}},
		{asserted("(g x u)", "(g y v)"), []string{"(g x u)", "(g y v)"}, []string{asBounds("x", "y")}, []string{"(= x y)"}},
		{asserted("(g x u)", "(g x v)"), []string{"(g x u)", "(g x v)"}, nil, nil},
		{asserted("(= (l u v) (l v u))"), []string{"(= (l u v) (l v u))"}, nil, nil},
		{asserted("(= (n x y) (n y x))"), []string{"(= (n x y) (n y x))"}, []string{asBounds("x", "y"), asBounds("y", "x")}, []string{"(= x y)", "(= y x)"}},
		{asserted("(= (n x y) (n x 3))", "(= (n y 3) u)"), []string{"(= (n x y) (n x 3))", "(= (n y 3) u)"}, []string{asBounds("y", "3"), asBounds("x", "y")}, []string{"(= y 3)", "(= x y)"}},
		{asserted("(< (h r w x) (h s w y))"), []string{"(< (h r w x) (h s w y))"}, []string{asBounds("r", "s"), asBounds("x", "y"), asBounds("(h r w x)", "(h s w y)")}, []string{"(= r s)", "(= x y)", "(= (h r w x) (h s w y))"}},
		{asserted("(< (h r w x) (h r z x))"), []string{"(< (h r w x) (h r z x))"}, []string{asBounds("(h r w x)", "(h r z x)")}, []string{"(= w z)", "(= (h r w x) (h r z x))"}},
		{asserted("(= (k w) (k z))"), []string{"(= (k w) (k z))"}, nil, []string{"(= w z)"}},
		{asserted("(= w z)", "(= (k w) (k z))"), []string{"(= w z)", "(= (k w) (k z))"}, nil, []string{"(= w z)"}},
		{asserted("(= z w)", "(= (k w) (k z))"), []string{"(= z w)", "(= (k w) (k z))"}, nil, []string{"(= w z)"}},
		{asserted("(g x u)", "(< (f y) x)"), []string{"(g x u)", "(< (f y) x)"}, nil, nil},
		{asserted("(< x y)", "(= u v)"), []string{"(< x y)", "(= u v)"}, nil, nil},
		{asserted("(< (select a x) (select a y))"), []string{"(< (select a x) (select a y))"}, []string{asBounds("x", "y"), asBounds("(select a x)", "(select a y)")}, []string{"(= x y)", "(= (select a x) (select a y))"}},
		{asserted("(< (select a x) (select b x))"), []string{"(< (select a x) (select b x))"}, []string{asBounds("(select a x)", "(select b x)")}, []string{"(= (select a x) (select b x))"}},
		{asserted("(< (select a x) 0)", "(< (select d y) 0.0)"), []string{"(< (select a x) 0)", "(< (select d y) 0.0)"}, nil, nil},
		{asserted("(= (select c #b0) (select c #b1))"), []string{"(= (select c #b0) (select c #b1))"}, nil, []string{"(= #b0 #b1)"}},
		{asserted("(< (f (ite p x y)) (f x))"), []string{"(< (f .0) (f x))"}, []string{asBounds(".0", "x"), "(or (not p) (= .0 x))", asBounds(".0", "y"), "(or p (= .0 y))", asBounds("(f .0)", "(f x)")}, []string{"(= .0 x)", "(= (f .0) (f x))"}},
	})
}
