package tests

import (
	"slices"
	"testing"

	"loop.example/g00007/impl"
)

// imageOf reads a term from its text and gives the text of its image, and those of all terms of the simpler bank.
func imageOf(t *testing.T, text string) (image string, all []string) {
	t.Helper()
	r := parsed(t, declaredMix+"(get-value ("+text+"))")
	if r.Err != impl.LangOk {
		t.Fatalf("%s: Err %d at %d", text, r.Err, r.At)
	}
	s := checkSimplify(t, r.Script.Bank)
	if !s.Ok {
		t.Fatalf("%s: not Ok", text)
	}
	for id := range s.Bank.Terms {
		all = append(all, impl.TermText(s.Bank, id))
	}
	return all[s.To[r.Script.Commands[0].Ids[0]]], all
}

// checkImages holds the images of terms against what they are said to be.
func checkImages(t *testing.T, pairs [][2]string) {
	t.Helper()
	for _, pair := range pairs {
		if got, _ := imageOf(t, pair[0]); got != pair[1] {
			t.Errorf("%s: %s, want %s", pair[0], short(got), short(pair[1]))
		}
	}
}

func TestStage8Examples(t *testing.T) {
	checkImages(t, [][2]string{{"(<= (+ x y) (* 2 x))", "(not (<= (+ x (* (- 1) y)) (- 1)))"}, {"(< (* 2 x) 3)", "(<= x 1)"}, {"(< (* 2.0 r) 3.0)", "(< r (/ 3.0 2.0))"}, {"(xor p (not (not p)))", "false"}})
}

// Rule 1.
func TestStage8PlainKids(t *testing.T) {
	checkImages(t, [][2]string{
		{"true", "true"}, {"false", "false"}, {"7", "7"}, {"0.5", "(/ 1.0 2.0)"}, {"#b01", "#b01"}, {"(not true)", "false"}, {"(not false)", "true"}, {"(and true true)", "true"}, {"(and true false)", "false"}, {"(or false false)", "false"}, {"(or false true)", "true"}, {"(xor true false)", "true"}, {"(xor true true)", "false"},
		{"(=> true false)", "false"}, {"(=> false false)", "true"}, {"(ite true 1 2)", "1"}, {"(ite false 1 2)", "2"}, {"(ite false #b01 #b10)", "#b10"}, {"(ite true false true)", "false"}, {"(= 1 2)", "false"}, {"(= 1 1)", "true"}, {"(= 0.5 (/ 2.0 4.0))", "true"}, {"(= #b01 #b10)", "false"}, {"(= true false)", "false"}, {"(= false false)", "true"}, {"(distinct 1 2 3)", "true"}, {"(distinct 1 2 1)", "false"}, {"(distinct true false)", "true"},
		{"(+ 1 2 3)", "6"}, {"(- 1 2)", "(- 1)"}, {"(- (+ 1 1))", "(- 2)"}, {"(* 3 (+ 1 1))", "6"}, {"(+ 0.5 0.25)", "(/ 3.0 4.0)"}, {"(- 0.5 0.5)", "0.0"}, {"(* 2.0 0.5)", "1.0"}, {"(<= 1 1)", "true"}, {"(< 1 1)", "false"}, {"(>= 1 2)", "false"}, {"(> 2 1)", "true"}, {"(< 0.25 0.5)", "true"},
		{"(div (- 7) 2)", "(- 4)"}, {"(mod (- 7) 2)", "1"}, {"(div 7 1)", "7"}, {"(mod 7 1)", "0"}, {"(mod 7 (- 1))", "0"}, {"(div 7 (- 1))", "(- 7)"}, {"(to_real 3)", "3.0"}, {"(to_real (- 3))", "(- 3.0)"},
		{"(bvnot #b0110)", "#b1001"}, {"(bvneg #b0110)", "#b1010"}, {"(bvadd #b11 #b01)", "#b00"}, {"(bvmul #b0101 #b0011)", "#b1111"}, {"(bvudiv #b10 #b00)", "#b11"}, {"(bvult #b01 #b10)", "true"}, {"(bvslt #b01 #b10)", "false"}, {"(concat #b1 #b01)", "#b101"}, {"((_ extract 2 1) #b101)", "#b10"}, {"((_ zero_extend 1) #b1)", "#b01"}, {"((_ sign_extend 1) #b1)", "#b11"},
		{"(f 3)", "(f 3)"}, {"(f (+ 1 2))", "(f 3)"}, {"(k (bvnot #b0000))", "(k #b1111)"}, {"(h 0.5 #b0000 (div 9 4))", "(h (/ 1.0 2.0) #b0000 2)"}, {"(= (f 3) (f (+ 1 2)))", "true"}, {"(ite true (f 3) 4)", "(f 3)"}, {"(= u u)", "true"}, {"(and (< 1 2) (not (= #b1 #b0)))", "true"},
	})
}

// Rules 2 and 3.
func TestStage8NotAndOr(t *testing.T) {
	checkImages(t, [][2]string{
		{"(not p)", "(not p)"}, {"(not (not p))", "p"}, {"(not (not (not p)))", "(not p)"}, {"(not (not (not (not (g x u)))))", "(g x u)"},
		{"(and p q)", "(and p q)"}, {"(and q p)", "(and q p)"}, {"(and (or p q) q p)", "(and p q (or p q))"}, {"(and p p)", "p"}, {"(and p q p q p)", "(and p q)"}, {"(and p true)", "p"}, {"(and true p)", "p"}, {"(and true p true q)", "(and p q)"}, {"(and p false)", "false"}, {"(and false q p)", "false"}, {"(and p q (not p))", "false"}, {"(and (not p) q p)", "false"},
		{"(and (not p) (not q))", "(and (not p) (not q))"}, {"(and (not p) (not p))", "(not p)"}, {"(and (not (not p)) (not p))", "false"}, {"(and (not (not p)) p)", "p"}, {"(and (or p (not p)) true)", "true"}, {"(and (or p (not p)) q)", "q"}, {"(and (and p q) (not (and q p)))", "false"}, {"(and p (and p q))", "(and p (and p q))"},
		{"(or p q)", "(or p q)"}, {"(or (and p q) q p)", "(or p q (and p q))"}, {"(or p p)", "p"}, {"(or q p q p)", "(or q p)"}, {"(or p false)", "p"}, {"(or false p)", "p"}, {"(or false p false q)", "(or p q)"}, {"(or p true)", "true"}, {"(or true q p)", "true"}, {"(or p q (not p))", "true"}, {"(or (not p) q p)", "true"}, {"(or (not p) (not q))", "(or (not p) (not q))"},
		{"(or (and p (not p)) false)", "false"}, {"(or (and p (not p)) q)", "q"}, {"(or p (not (not p)))", "p"}, {"(or (or p q) (not (or q p)))", "true"}, {"(or p (or p q))", "(or p (or p q))"}, {"(or (= 1 2) (= x x))", "true"}, {"(and (= 1 2) (= x x))", "false"}, {"(and (= x x) (< 1 2) (= y y))", "true"}, {"(or (< x x) (< 2 1))", "false"},
	})
}

// Rules 4 and 5.
func TestStage8XorImplies(t *testing.T) {
	checkImages(t, [][2]string{
		{"(xor p p)", "false"}, {"(xor p false)", "p"}, {"(xor false p)", "p"}, {"(xor p true)", "(not p)"}, {"(xor true p)", "(not p)"}, {"(xor true (not p))", "p"}, {"(xor (not p) true)", "p"}, {"(xor (not p) false)", "(not p)"}, {"(xor p q)", "(xor p q)"}, {"(xor q p)", "(xor q p)"}, {"(xor (and p q) p)", "(xor p (and p q))"}, {"(xor (not p) p)", "(xor p (not p))"}, {"(xor (and p p) (or p p))", "false"}, {"(= (xor (and p q) p) (xor p (and p q)))", "true"},
		{"(=> p q)", "(or q (not p))"}, {"(=> p p)", "true"}, {"(=> true p)", "p"}, {"(=> false p)", "true"}, {"(=> p true)", "true"}, {"(=> p false)", "(not p)"}, {"(=> (not p) q)", "(or p q)"}, {"(=> (not p) p)", "p"}, {"(=> p (not p))", "(not p)"}, {"(=> (not p) false)", "p"}, {"(=> (and p q) q)", "(or q (not (and p q)))"},
	})
}

// Rule 6.
func TestStage8Ite(t *testing.T) {
	checkImages(t, [][2]string{
		{"(ite true x y)", "x"}, {"(ite false x y)", "y"}, {"(ite p x x)", "x"}, {"(ite p x y)", "(ite p x y)"}, {"(ite (not p) x y)", "(ite p y x)"}, {"(ite (not (not p)) x y)", "(ite p x y)"}, {"(ite (not p) x (+ x 0))", "x"}, {"(ite p (+ 1 x) (+ x 1))", "(+ 1 x)"}, {"(ite (not p) u v)", "(ite p v u)"}, {"(ite (not p) a (store a x y))", "(ite p (store a x y) a)"}, {"(ite (= x x) w z)", "w"}, {"(ite p 1 1)", "1"}, {"(ite p 1 2)", "(ite p 1 2)"}, {"(ite (not p) 1 2)", "(ite p 2 1)"},
		{"(ite p true q)", "(or p q)"}, {"(ite p false q)", "(and q (not p))"}, {"(ite p q true)", "(or q (not p))"}, {"(ite p q false)", "(and p q)"}, {"(ite p true false)", "p"}, {"(ite p false true)", "(not p)"}, {"(ite p true true)", "true"}, {"(ite p false false)", "false"}, {"(ite (not p) true false)", "(not p)"}, {"(ite (not p) false true)", "p"},
		{"(ite (not p) true q)", "(or (not p) q)"}, {"(ite (not p) false q)", "(and p q)"}, {"(ite (not p) q true)", "(or p q)"}, {"(ite (not p) q false)", "(and (not p) q)"}, {"(ite p true p)", "p"}, {"(ite p false p)", "false"}, {"(ite p p true)", "true"}, {"(ite p p false)", "p"}, {"(ite p p q)", "(ite p p q)"}, {"(ite p q p)", "(ite p q p)"}, {"(ite p q (not q))", "(ite p q (not q))"}, {"(ite p true (not p))", "true"}, {"(ite p false (not p))", "(not p)"},
		{"(ite p (not p) true)", "(not p)"}, {"(ite p (not p) false)", "false"}, {"(ite (not p) (not p) q)", "(ite p q (not p))"}, {"(ite true p p)", "p"}, {"(ite false q p)", "p"},
	})
}

// Rules 7 and 8.
func TestStage8EqDistinct(t *testing.T) {
	checkImages(t, [][2]string{
		{"(= p p)", "true"}, {"(= p true)", "p"}, {"(= true p)", "p"}, {"(= p false)", "(not p)"}, {"(= false p)", "(not p)"}, {"(= (not p) false)", "p"}, {"(= true (not p))", "(not p)"}, {"(= p q)", "(= p q)"}, {"(= q p)", "(= q p)"}, {"(= (and p q) p)", "(= p (and p q))"}, {"(= (not p) p)", "(= p (not p))"},
		{"(= x x)", "true"}, {"(= x y)", "(= x y)"}, {"(= (+ x y) x)", "(= x (+ x y))"}, {"(= x (+ x 1))", "false"}, {"(= (+ x 1) (+ 1 x))", "true"}, {"(= (+ x 1) (- x (- 1)))", "true"}, {"(= (- x y) (+ x (* (- 1) y)))", "true"}, {"(= (* 2 x) (+ x x 3))", "false"}, {"(= (* 2 x) 1)", "(= (* 2 x) 1)"}, {"(= 1 (* 2 x))", "(= 1 (* 2 x))"}, {"(= (* 2 x) (* 2 y))", "(= (* 2 x) (* 2 y))"},
		{"(= r (+ r 0.5))", "false"}, {"(= (* 0.5 r) (- r (* 0.5 r)))", "true"}, {"(= (to_real x) (to_real (+ x 0)))", "true"}, {"(= (to_real x) (to_real (+ x 1)))", "(= (to_real x) (to_real (+ 1 x)))"}, {"(= u v)", "(= u v)"}, {"(= (k w) u)", "(= (k w) u)"}, {"(= u (k w))", "(= u (k w))"}, {"(= (k w) (k w))", "true"}, {"(= w z)", "(= w z)"}, {"(= w w)", "true"}, {"(= (bvnot (bvnot w)) w)", "true"}, {"(= a a)", "true"}, {"(= (store a x y) a)", "(= a (store a x y))"},
		{"(distinct x y)", "(not (= x y))"}, {"(distinct p q)", "(not (= p q))"}, {"(distinct p true)", "(not p)"}, {"(distinct p false)", "p"}, {"(distinct false p)", "p"}, {"(distinct x x)", "false"}, {"(distinct x (+ x 1))", "true"}, {"(distinct x (+ x 1) (+ x 2) (- x 1))", "true"}, {"(distinct x y x)", "false"}, {"(distinct y x x)", "false"}, {"(distinct (+ x y) x)", "(not (= x (+ x y)))"},
		{"(distinct x 1 2)", "(and (not (= x 1)) (not (= x 2)))"}, {"(distinct 1 2 x)", "(and (not (= 1 x)) (not (= 2 x)))"}, {"(distinct u v (k w))", "(and (and (not (= u v)) (not (= u (k w)))) (not (= v (k w))))"}, {"(distinct p q true)", "(and (and (not (= p q)) (not p)) (not q))"}, {"(distinct p q true false)", "false"}, {"(distinct p (not p) p)", "false"}, {"(distinct w z #b0000 #b0001)", "(and (and (not (= w z)) (not (= w #b0000)) (not (= w #b0001))) (and (not (= z #b0000)) (not (= z #b0001))))"},
	})
}

// Rule 9.
func TestStage8Sums(t *testing.T) {
	checkImages(t, [][2]string{
		{"(+ x 0)", "x"}, {"(+ 0 x)", "x"}, {"(+ x x)", "(* 2 x)"}, {"(- x x)", "0"}, {"(- r r)", "0.0"}, {"(- x)", "(* (- 1) x)"}, {"(- (- x))", "x"}, {"(- (- r))", "r"}, {"(* 0 x)", "0"}, {"(* 1 x)", "x"}, {"(* (- 1) x)", "(* (- 1) x)"}, {"(* 2 x)", "(* 2 x)"}, {"(* 2 (* 3 x))", "(* 6 x)"}, {"(* (- 1) (* (- 1) x))", "x"}, {"(* 2.0 (* 0.5 r))", "r"}, {"(* 2 (+ x 3))", "(+ 6 (* 2 x))"}, {"(* 0 (+ x 3))", "0"},
		{"(+ x 1)", "(+ 1 x)"}, {"(+ 1 x 2)", "(+ 3 x)"}, {"(+ 1 x (- 1))", "x"}, {"(+ x (+ y (+ x 1)))", "(+ 1 (* 2 x) y)"}, {"(- (+ x y) y)", "x"}, {"(- (+ x y) x)", "y"}, {"(- (+ x y) (+ y x))", "0"}, {"(+ y x (- y))", "x"}, {"(+ y x y)", "(+ (* 2 y) x)"}, {"(- x y)", "(+ x (* (- 1) y))"}, {"(- (- x y))", "(+ (* (- 1) x) y)"}, {"(- 1 x)", "(+ 1 (* (- 1) x))"}, {"(- x 1)", "(+ (- 1) x)"}, {"(- 5 (- 3 x))", "(+ 2 x)"}, {"(- (* 3 x) (* 2 x))", "x"}, {"(- (+ (* 3 x) y 4) (- (* 2 x) 1))", "(+ 5 x y)"},
		{"(+ (* 0.5 r) (* 0.25 r))", "(* (/ 3.0 4.0) r)"}, {"(+ r 0.5 r 0.5)", "(+ 1.0 (* 2.0 r))"}, {"(- (* 0.5 r) (* 0.25 s))", "(+ (* (/ 1.0 2.0) r) (* (/ (- 1.0) 4.0) s))"}, {"(+ (f x) x (f x))", "(+ x (* 2 (f x)))"}, {"(+ (ite p x y) 1)", "(+ 1 (ite p x y))"}, {"(+ (div x 2) (div x 2))", "(* 2 (div x 2))"}, {"(- (mod x 2) (mod x 2))", "0"}, {"(+ (to_real x) (to_real x))", "(* 2.0 (to_real x))"}, {"(to_real (+ x x))", "(to_real (* 2 x))"}, {"(+ (select a x) (select a x))", "(* 2 (select a x))"}, {"(f (+ x (- x)))", "(f 0)"}, {"(select a (+ x 0))", "(select a x)"},
		{"(- (ite p (+ x 1) (+ 1 x)) x)", "1"}, {"(+ (div (+ x x) 1) x)", "(* 3 x)"}, {"(* 3 (mod x 1))", "0"}, {"(* 3 (ite true x y))", "(* 3 x)"},
	})
}

// Rule 10 for whole numbers: which sign comes first, what divides all, and how the bound is rounded.
func TestStage8WholeOrder(t *testing.T) {
	checkImages(t, [][2]string{
		{"(<= x 3)", "(<= x 3)"}, {"(< x 3)", "(<= x 2)"}, {"(>= x 3)", "(not (<= x 2))"}, {"(> x 3)", "(not (<= x 3))"}, {"(<= 3 x)", "(not (<= x 2))"}, {"(< 3 x)", "(not (<= x 3))"}, {"(>= 3 x)", "(<= x 3)"}, {"(> 3 x)", "(<= x 2)"}, {"(not (>= x 3))", "(<= x 2)"}, {"(not (< x 3))", "(not (<= x 2))"}, {"(<= x 0)", "(<= x 0)"}, {"(< x 0)", "(<= x (- 1))"}, {"(>= x 0)", "(not (<= x (- 1)))"}, {"(> x 0)", "(not (<= x 0))"},
		{"(<= (* 2 x) 3)", "(<= x 1)"}, {"(< (* 2 x) 3)", "(<= x 1)"}, {"(<= (* 2 x) 4)", "(<= x 2)"}, {"(< (* 2 x) 4)", "(<= x 1)"}, {"(<= (* 2 x) (- 3))", "(<= x (- 2))"}, {"(< (* 2 x) (- 3))", "(<= x (- 2))"}, {"(<= (* 2 x) (- 4))", "(<= x (- 2))"}, {"(< (* 2 x) (- 4))", "(<= x (- 3))"}, {"(>= (* 2 x) 3)", "(not (<= x 1))"}, {"(> (* 2 x) 3)", "(not (<= x 1))"}, {"(>= (* 2 x) 4)", "(not (<= x 1))"}, {"(> (* 2 x) 4)", "(not (<= x 2))"},
		{"(>= (* 2 x) (- 3))", "(not (<= x (- 2)))"}, {"(> (* 2 x) (- 3))", "(not (<= x (- 2)))"}, {"(>= (* 2 x) (- 4))", "(not (<= x (- 3)))"}, {"(> (* 2 x) (- 4))", "(not (<= x (- 2)))"}, {"(>= (* (- 2) x) 3)", "(<= x (- 2))"}, {"(> (* (- 2) x) 3)", "(<= x (- 2))"}, {"(<= (* (- 2) x) 3)", "(not (<= x (- 2)))"}, {"(< (* (- 2) x) 3)", "(not (<= x (- 2)))"}, {"(<= (* (- 2) x) 4)", "(not (<= x (- 3)))"}, {"(< (* (- 2) x) 4)", "(not (<= x (- 2)))"}, {"(<= (- x) 3)", "(not (<= x (- 4)))"},
		{"(<= (+ (* 4 x) (* 6 y)) 7)", "(<= (+ (* 2 x) (* 3 y)) 3)"}, {"(< (+ (* 4 x) (* 6 y)) 8)", "(<= (+ (* 2 x) (* 3 y)) 3)"}, {"(>= (+ (* 4 x) (* 6 y)) 7)", "(not (<= (+ (* 2 x) (* 3 y)) 3))"}, {"(<= (- (* 6 y) (* 4 x)) 7)", "(<= (+ (* 3 y) (* (- 2) x)) 3)"}, {"(<= (+ (* 3 x) (* 5 y)) 7)", "(<= (+ (* 3 x) (* 5 y)) 7)"}, {"(<= (* 3 (+ x y)) 3)", "(<= (+ x y) 1)"}, {"(< (* 7 x) (* 7 y))", "(<= (+ x (* (- 1) y)) (- 1))"},
		{"(<= x y)", "(<= (+ x (* (- 1) y)) 0)"}, {"(< x y)", "(<= (+ x (* (- 1) y)) (- 1))"}, {"(>= x y)", "(not (<= (+ x (* (- 1) y)) (- 1)))"}, {"(> x y)", "(not (<= (+ x (* (- 1) y)) 0))"}, {"(<= x x)", "true"}, {"(< x x)", "false"}, {"(>= x x)", "true"}, {"(> x x)", "false"}, {"(< x (+ x 1))", "true"}, {"(> x (+ x 1))", "false"}, {"(>= x (+ x 1))", "false"}, {"(<= (+ x 1) x)", "false"}, {"(>= (+ x 1) x)", "true"}, {"(<= (+ x y 2) (+ y x 2))", "true"}, {"(< (- x y) (- x y))", "false"},
		{"(<= (f x) (+ x (f x)))", "(not (<= x (- 1)))"}, {"(<= (+ x 1) (- y 1))", "(<= (+ x (* (- 1) y)) (- 2))"}, {"(< (ite p x y) 1)", "(<= (ite p x y) 0)"}, {"(and (< x 3) (<= x 2))", "(<= x 2)"}, {"(and (< x 3) (>= x 3))", "false"}, {"(or (< x 3) (> x 2))", "true"},
	})
}

// Rule 10 for rational numbers, which are not rounded, and whose first Coef becomes 1.
func TestStage8RealOrder(t *testing.T) {
	checkImages(t, [][2]string{
		{"(<= r 3.0)", "(<= r 3.0)"}, {"(< r 3.0)", "(< r 3.0)"}, {"(>= r 3.0)", "(not (< r 3.0))"}, {"(> r 3.0)", "(not (<= r 3.0))"}, {"(<= 3.0 r)", "(not (< r 3.0))"}, {"(< 3.0 r)", "(not (<= r 3.0))"}, {"(>= 3.0 r)", "(<= r 3.0)"}, {"(> 3.0 r)", "(< r 3.0)"}, {"(not (>= r 3.0))", "(< r 3.0)"}, {"(not (> r 3.0))", "(<= r 3.0)"},
		{"(< (* 2.0 r) 3.0)", "(< r (/ 3.0 2.0))"}, {"(<= (* 2.0 r) (- 3.0))", "(<= r (/ (- 3.0) 2.0))"}, {"(<= (* (- 2.0) r) 3.0)", "(not (< r (/ (- 3.0) 2.0)))"}, {"(< (* (- 2.0) r) 3.0)", "(not (<= r (/ (- 3.0) 2.0)))"}, {"(>= (* (- 2.0) r) 3.0)", "(<= r (/ (- 3.0) 2.0))"}, {"(> (* (- 0.5) r) 3.0)", "(< r (- 6.0))"}, {"(<= (* 2.0 r) 4.0)", "(<= r 2.0)"}, {"(< (* 2.0 r) 4.0)", "(< r 2.0)"},
		{"(<= r s)", "(<= (+ r (* (- 1.0) s)) 0.0)"}, {"(< r s)", "(< (+ r (* (- 1.0) s)) 0.0)"}, {"(>= r s)", "(not (< (+ r (* (- 1.0) s)) 0.0))"}, {"(> r s)", "(not (<= (+ r (* (- 1.0) s)) 0.0))"}, {"(< (* 0.5 r) (* 0.25 s))", "(< (+ r (* (/ (- 1.0) 2.0) s)) 0.0)"}, {"(<= (+ (* 4.0 r) (* 6.0 s)) 7.0)", "(<= (+ r (* (/ 3.0 2.0) s)) (/ 7.0 4.0))"}, {"(<= (- (* 6.0 s) (* 4.0 r)) 7.0)", "(<= (+ s (* (/ (- 2.0) 3.0) r)) (/ 7.0 6.0))"}, {"(>= (+ r 1.0) (- s 1.0))", "(not (< (+ r (* (- 1.0) s)) (- 2.0)))"},
		{"(<= r r)", "true"}, {"(< r r)", "false"}, {"(>= r r)", "true"}, {"(> r r)", "false"}, {"(< r (+ r 0.5))", "true"}, {"(> r (+ r 0.5))", "false"}, {"(<= (to_real x) 0.5)", "(<= (to_real x) (/ 1.0 2.0))"}, {"(< (* 2.0 (to_real x)) 3.0)", "(< (to_real x) (/ 3.0 2.0))"}, {"(< r (h r w x))", "(< (+ r (* (- 1.0) (h r w x))) 0.0)"},
	})
}

// Rules 11 to 13.
func TestStage8OtherRules(t *testing.T) {
	checkImages(t, [][2]string{
		{"(div x 1)", "x"}, {"(div (+ x x) 1)", "(* 2 x)"}, {"(div x (- 1))", "(div x (- 1))"}, {"(div x 2)", "(div x 2)"}, {"(div x 10)", "(div x 10)"}, {"(div x 11)", "(div x 11)"}, {"(mod x 1)", "0"}, {"(mod x (- 1))", "0"}, {"(mod x 2)", "(mod x 2)"}, {"(mod x (- 2))", "(mod x (- 2))"}, {"(mod x 11)", "(mod x 11)"}, {"(div (div x 1) 2)", "(div x 2)"}, {"(= (div x 1) x)", "true"},
		{"(bvnot (bvnot w))", "w"}, {"(bvnot w)", "(bvnot w)"}, {"(bvnot (bvnot (bvnot w)))", "(bvnot w)"}, {"(bvneg (bvneg w))", "(bvneg (bvneg w))"}, {"(bvnot (bvneg w))", "(bvnot (bvneg w))"}, {"(bvneg (bvnot (bvnot w)))", "(bvneg w)"},
		{"x", "x"}, {"u", "u"}, {"a", "a"}, {"(g x u)", "(g x u)"}, {"(g (+ 1 x) u)", "(g (+ 1 x) u)"}, {"(bvand w w)", "(bvand w w)"}, {"(bvand #b0000 w)", "(bvand #b0000 w)"}, {"(bvxor w w)", "(bvxor w w)"}, {"(bvult w w)", "(bvult w w)"}, {"(concat w #b1)", "(concat w #b1)"}, {"((_ extract 3 0) w)", "((_ extract 3 0) w)"}, {"((_ zero_extend 2) (bvnot (bvnot w)))", "((_ zero_extend 2) w)"}, {"((_ sign_extend 2) w)", "((_ sign_extend 2) w)"},
		{"(select (store a x y) x)", "(select (store a x y) x)"}, {"(store (store a x 1) x 1)", "(store (store a x 1) x 1)"}, {"(store a (+ x 0) (- y y))", "(store a x 0)"}, {"(to_real x)", "(to_real x)"}, {"(select c #b1)", "(select c #b1)"},
	})
}

// All terms of the simpler bank, in their order: kids from the left, ahead of their term, and what a rule makes on its way.
func TestStage8OrderOfTerms(t *testing.T) {
	for _, row := range [][]string{
		{"x", "x"},
		{"(and q true p q)", "q", "p", "(and q p)"},
		{"(=> p q)", "p", "q", "(not p)", "(or q (not p))"},
		{"(=> p p)", "p", "(not p)"},
		{"(ite p false p)", "p", "(not p)"},
		{"(ite p q true)", "p", "q", "(not p)", "(or q (not p))"},
		{"(ite (not p) x y)", "p", "(not p)", "x", "y", "(ite p y x)"},
		{"(<= (+ x y) (* 2 x))", "x", "y", "(+ x y)", "2", "(* 2 x)", "(- 1)", "(* (- 1) y)", "(+ x (* (- 1) y))", "(<= (+ x (* (- 1) y)) (- 1))", "(not (<= (+ x (* (- 1) y)) (- 1)))"},
		{"(- 5 (* 3 x))", "5", "3", "x", "(* 3 x)", "(- 3)", "(* (- 3) x)", "(+ 5 (* (- 3) x))"},
		{"(- (* 2 x) (* 3 y))", "2", "x", "(* 2 x)", "3", "y", "(* 3 y)", "(- 3)", "(* (- 3) y)", "(+ (* 2 x) (* (- 3) y))"},
		{"(* 2 (+ x 3 y))", "2", "x", "3", "y", "(+ 3 x y)", "6", "(* 2 x)", "(* 2 y)", "(+ 6 (* 2 x) (* 2 y))"},
		{"(>= x 7)", "x", "7", "6", "(<= x 6)", "(not (<= x 6))"},
		{"(> (* 2 y) x)", "2", "y", "(* 2 y)", "x", "(- 1)", "(* (- 1) x)", "(+ (* 2 y) (* (- 1) x))", "0", "(<= (+ (* 2 y) (* (- 1) x)) 0)", "(not (<= (+ (* 2 y) (* (- 1) x)) 0))"},
		{"(< r 1.5)", "r", "(/ 3.0 2.0)", "(< r (/ 3.0 2.0))"},
		{"(distinct u v (k w))", "u", "v", "w", "(k w)", "(= u v)", "(not (= u v))", "(= u (k w))", "(not (= u (k w)))", "(and (not (= u v)) (not (= u (k w))))", "(= v (k w))", "(not (= v (k w)))", "(and (and (not (= u v)) (not (= u (k w)))) (not (= v (k w))))"},
		{"(distinct x y x)", "x", "y", "(= x y)", "(not (= x y))"},
		{"(= (+ x 1) (+ 1 x))", "x", "1", "(+ 1 x)"},
		{"(mod x (- 1))", "x", "1", "(- 1)", "0"},
		{"(not (not p))", "p", "(not p)"},
		{"(xor (and p q) p)", "p", "q", "(and p q)", "(xor p (and p q))"},
		{"(+ 1 2)", "1", "2", "3"},
		{"(bvadd #b01 #b11)", "#b01", "#b11", "#b00"},
	} {
		want := append([]string{"true", "false"}, row[1:]...)
		if _, all := imageOf(t, row[0]); !slices.Equal(all, want) {
			t.Errorf("%s:\n%q, want\n%q", row[0], all, want)
		}
	}
}
