package tests

import (
	"fmt"
	"slices"
	"strconv"
	"strings"
	"testing"

	"loop.example/g00007/impl"
)

// modelText writes a model: NAME=REST for each function, and behind it NAME(ARG ..)=VAL for each of its rows.
func modelText(m impl.Model) string {
	var parts []string
	for _, in := range m.Interps {
		parts = append(parts, in.Name+"="+in.Rest)
		for _, row := range in.Rows {
			parts = append(parts, in.Name+"("+strings.Join(row.Args, " ")+")="+row.Val)
		}
	}
	return strings.Join(parts, " ")
}

// checkModels is for scripts that are sat, with models that were worked out by hand.
func checkModels(t *testing.T, declared string, pairs [][2]string) {
	t.Helper()
	for _, pair := range pairs {
		c := readAsks(t, declared+pair[0])
		if v := c.check(t, 20000); v.Status != impl.VerSat || modelText(v.Model) != pair[1] {
			t.Errorf("%s: status %d, why %d, %s\nwant %s", pair[0], v.Status, v.Why, modelText(v.Model), pair[1])
		}
	}
}

// Bools and words: what no term stands for, and what falls away, has the first value.
func TestStage15ModelBools(t *testing.T) {
	checkModels(t, boolConsts+"(declare-const s (_ BitVec 2))(declare-const t (_ BitVec 5))", [][2]string{
		{"", "p=false q=false r=false s=#b00 t=#b00000"},
		{"(assert true)", "p=false q=false r=false s=#b00 t=#b00000"},
		{"(assert p)(assert (not q))", "p=true q=false r=false s=#b00 t=#b00000"},
		{"(assert (not (and q (not r))))(assert (and q p))", "p=true q=true r=true s=#b00 t=#b00000"},
		{"(assert (or p (not p)))(assert (or q q))", "p=false q=true r=false s=#b00 t=#b00000"},
		{"(assert (= s #b10))(assert (= t #b01101))", "p=false q=false r=false s=#b10 t=#b01101"},
		{"(assert (= (bvadd s #b01) #b00))(assert (= ((_ extract 4 3) t) s))(assert (= ((_ extract 2 0) t) (concat #b0 (bvnot s))))", "p=false q=false r=false s=#b11 t=#b11000"},
		{"(assert (= (concat s s) #b1010))(assert (= ((_ sign_extend 3) s) t))", "p=false q=false r=false s=#b10 t=#b11110"},
		{"(assert (= (ite p s #b01) #b10))(assert (xor p q))", "p=true q=false r=false s=#b10 t=#b00000"},
	})
}

// Numbers: those of the rows, and 0 for all others.
func TestStage15ModelNumbers(t *testing.T) {
	d := "(declare-const x Int)(declare-const y Int)(declare-const u Real)(declare-const w Real)"
	checkModels(t, d, [][2]string{
		{"(assert (< x 5))(assert (< 2 x))", "x=3 y=0 u=0 w=0"},
		{"(assert (< (* 2.0 u) 7.0))(assert (< 3.0 u))", "x=0 y=0 u=10/3 w=0"},
		{"(assert (= x (- 7)))(assert (= y (* 3 x)))", "x=-7 y=-21 u=0 w=0"},
		{"(assert (= u (/ 1.0 3.0)))(assert (= (* 2.0 w) (+ u (- 1.0))))", "x=0 y=0 u=1/3 w=-1/3"},
		{"(assert (= (to_real x) (* 4.0 u)))(assert (= u 1.25))", "x=5 y=0 u=5/4 w=0"},
		{"(assert (= (div x 3) 2))(assert (= (mod x 3) 1))", "x=7 y=0 u=0 w=0"},
		{"(assert (= (mod x 4) 3))(assert (< x 0))(assert (< (- 4) x))", "x=-1 y=0 u=0 w=0"},
		{"(assert (= (ite (< x y) 5 x) y))(assert (= x 2))(assert (distinct x y))", "x=2 y=5 u=0 w=0"},
	})
	// a number that stands in no row: an argument, and what a function gives
	f := "(declare-sort U 0)(declare-const y Int)(declare-const v Real)(declare-const a U)(declare-fun f (Int) U)(declare-fun g (Real) Int)(declare-fun h (U) Real)"
	checkModels(t, f, [][2]string{
		{"(assert (not (= a (f y))))", "y=0 v=0 a=@0 f=@0 f(0)=@1 g=0 h=0"},
		{"(assert (not (= a (f (+ y 3)))))", "y=0 v=0 a=@0 f=@0 f(3)=@1 g=0 h=0"},
		{"(assert (not (= a (f (+ (* (- 2) y) (- 5))))))", "y=0 v=0 a=@0 f=@0 f(-5)=@1 g=0 h=0"},
		{"(assert (not (= a (f (g (+ v 2.5))))))", "y=0 v=0 a=@0 f=@0 f(0)=@1 g=0 h=0"},
		{"(assert (= (g v) 7))", "y=0 v=0 a=@0 f=@0 g=0 g(0)=7 h=0"},
		{"(assert (= (g (to_real y)) 7))(assert (= y 3))", "y=3 v=0 a=@0 f=@0 g=0 g(3)=7 h=0"},
		{"(assert (< (h a) 0.0))(assert (< (- 1.0) (h a)))", "y=0 v=0 a=@0 f=@0 g=0 h=0 h(@0)=-1/2"},
		{"(assert (= y 2))(assert (not (= a (f (* 3 y)))))", "y=2 v=0 a=@0 f=@0 f(6)=@1 g=0 h=0"},
		{"(assert (= y 2))(assert (= (g (* 0.5 (to_real y))) (- 3)))", "y=2 v=0 a=@0 f=@0 g=0 g(1)=-3 h=0"},
	})
	// a difference of more parts than a sum may have stays one, and so does what is made of it
	wide := "(- (+ x0 " + joinedNames("x", 1, 26) + ") (+ x26 " + joinedNames("x", 27, 52) + "))"
	d = "(declare-sort U 0)(declare-const a U)(declare-fun f (Int) U)" + declaredConsts("x", "Int", 52) + "(assert (= x0 7))(assert (= x26 2))(assert (not (= a (f %s))))"
	for term, want := range map[string]string{wide: "5", "(- " + wide + ")": "-5", "(* (- 3) " + wide + ")": "-15", "(+ 1 " + wide + ")": "6", "(- 1 " + wide + ")": "-4"} {
		c := readAsks(t, fmt.Sprintf(d, term))
		v := c.check(t, 20000)
		if text := modelText(v.Model); !strings.HasPrefix(text, "a=@0 f=@0 f("+want+")=@1 x0=7 x1=0 ") {
			t.Errorf("%s..: status %d, %s", term[:10], v.Status, text[:min(len(text), 80)])
		}
	}
}

// Elements: those of each own sort from @0 on, by the least index of their classes.
func TestStage15ModelElements(t *testing.T) {
	d := "(declare-sort U 0)(declare-sort |a b| 0)(declare-const a U)(declare-const b U)(declare-const c U)(declare-const z |a b|)(declare-const k |a b|)(declare-fun f (U) U)(declare-fun g (|a b| U) |a b|)(declare-fun P (U) Bool)"
	checkModels(t, d, [][2]string{
		{"", "a=@0 b=@0 c=@0 z=@0 k=@0 f=@0 g=@0 P=false"},
		{"(assert (distinct a b c))", "a=@0 b=@1 c=@2 z=@0 k=@0 f=@0 g=@0 P=false"},
		{"(assert (distinct c b))", "a=@0 b=@1 c=@0 z=@0 k=@0 f=@0 g=@0 P=false"},
		{"(assert (= c a))(assert (distinct a b))", "a=@0 b=@1 c=@0 z=@0 k=@0 f=@0 g=@0 P=false"},
		{"(assert (distinct b a))(assert (distinct k z))", "a=@1 b=@0 c=@0 z=@1 k=@0 f=@0 g=@0 P=false"},
		// (f a) is met ahead of b
		{"(assert (distinct a (f a)))(assert (= b b))(assert (distinct a b))(assert (distinct b (f a)))", "a=@0 b=@2 c=@0 z=@0 k=@0 f=@0 f(@0)=@1 g=@0 P=false"},
		// what is f of an element is that element: rows for all but @0
		{"(assert (distinct a b c))(assert (= (f a) a))(assert (= (f b) b))(assert (= (f c) c))", "a=@0 b=@1 c=@2 z=@0 k=@0 f=@0 f(@1)=@1 f(@2)=@2 g=@0 P=false"},
		// (f a) and (f b) are one, as a and b are: the same arguments once
		{"(assert (distinct c a))(assert (= a b))(assert (distinct (f a) c))(assert (= (f b) (f a)))(assert (P a))(assert (P b))(assert (not (P c)))", "a=@1 b=@1 c=@0 z=@0 k=@0 f=@0 f(@1)=@2 g=@0 P=false P(@1)=true"},
		{"(assert (distinct z (g z a)))(assert (distinct z (g k a)))(assert (distinct k z))(assert (P (f a)))", "a=@0 b=@0 c=@0 z=@0 k=@2 f=@0 f(@0)=@1 g=@0 g(@0 @0)=@1 g(@2 @0)=@3 P=false P(@1)=true"},
	})
}

// Functions: rows by their arguments, and none for what gives the rest.
func TestStage15ModelFunctions(t *testing.T) {
	d := "(declare-const x Int)(declare-const s (_ BitVec 2))(declare-fun f (Int) Int)(declare-fun g ((_ BitVec 2) Int) (_ BitVec 2))(declare-fun Q (Real) Bool)"
	checkModels(t, d, [][2]string{
		{"(assert (= (f 5) 1))(assert (= (f 2) 3))(assert (= (f (- 1)) 0))", "x=0 s=#b00 f=0 f(2)=3 f(5)=1 g=#b00 Q=false"},
		{"(assert (= (f 10) 1))(assert (= (f 9) 1))(assert (= (f (- 10)) 1))(assert (= (f (- 9)) 1))", "x=0 s=#b00 f=0 f(-10)=1 f(-9)=1 f(9)=1 f(10)=1 g=#b00 Q=false"},
		{"(assert (= x 2))(assert (= (f x) 3))(assert (= (f 2) 3))", "x=2 s=#b00 f=0 f(2)=3 g=#b00 Q=false"},
		{"(assert (= x 2))(assert (= (f x) 3))(assert (= (f (f x)) 2))", "x=2 s=#b00 f=0 f(2)=3 f(3)=2 g=#b00 Q=false"},
		{"(assert (= (g #b10 1) #b11))(assert (= (g #b01 7) #b01))(assert (= (g #b10 (- 1)) #b10))(assert (= (g #b11 0) #b00))", "x=0 s=#b00 f=0 g=#b00 g(#b01 7)=#b01 g(#b10 -1)=#b10 g(#b10 1)=#b11 Q=false"},
		{"(assert (Q 0.5))(assert (not (Q 0.25)))(assert (Q (- 0.5)))(assert (Q (/ 1.0 3.0)))", "x=0 s=#b00 f=0 g=#b00 Q=false Q(-1/2)=true Q(1/3)=true Q(1/2)=true"},
	})
}

// Arrays: the rest is the first value, and what is selected stands in entries; indexes of bits that are 0 change the rest.
func TestStage15ModelArrays(t *testing.T) {
	checkModels(t, "(declare-const a (Array Int Int))(declare-const b (Array Int Int))(declare-const i Int)", [][2]string{
		{"", "a={0} b={0} i=0"},
		{"(assert (= (select a 2) 5))", "a={0;2=5} b={0} i=0"},
		{"(assert (= (select a 2) 5))(assert (= (select a 1) 0))(assert (= (select a (- 3)) 7))", "a={0;-3=7;2=5} b={0} i=0"},
		{"(assert (= i 2))(assert (= (select a i) 5))(assert (= (select a 2) 5))", "a={0;2=5} b={0} i=2"},
		{"(assert (= (select (store a 1 7) 1) (select b 1)))(assert (= (select a 1) 2))", "a={0;1=2} b={0;1=7} i=0"},
		{"(assert (= (select (store a 1 7) i) (select b 1)))(assert (= (select a 1) 2))(assert (= i 3))(assert (= (select a i) 4))(assert (= (select b i) 0))", "a={0;1=2;3=4} b={0;1=4} i=3"},
	})
	checkModels(t, "(declare-const a (Array (_ BitVec 2) (_ BitVec 1)))(declare-const b (Array (_ BitVec 2) (_ BitVec 1)))", [][2]string{
		{"(assert (= (select a #b10) #b1))", "a={#b0;#b10=#b1} b={#b0}"},
		{"(assert (= (select a #b00) #b1))", "a={#b1;#b01=#b0;#b10=#b0;#b11=#b0} b={#b0}"},
		{"(assert (= (select a #b11) #b1))(assert (= (select a #b00) #b1))(assert (= (select a #b01) #b0))", "a={#b1;#b01=#b0;#b10=#b0} b={#b0}"},
		{"(assert (= b (store a #b00 #b1)))(assert (= (select a #b00) #b0))", "a={#b0} b={#b1;#b01=#b0;#b10=#b0;#b11=#b0}"},
	})
	d := "(declare-sort U 0)(declare-const i U)(declare-const k U)(declare-const e U)(declare-const a (Array U U))(declare-const b (Array U U))(declare-const c (Array U Real))"
	checkModels(t, d, [][2]string{
		{"(assert (distinct i k))(assert (= (select a i) k))(assert (= (select a k) i))", "i=@0 k=@1 e=@0 a={@0;@0=@1} b={@0} c={0}"},
		// that two arrays are equal is told with an index more, here @3, at which both have one more element
		{"(assert (distinct e i k))(assert (= (select a i) k))(assert (= b (store a k i)))(assert (= (select a k) e))", "i=@1 k=@2 e=@0 a={@0;@1=@2;@3=@4} b={@0;@1=@2;@2=@1;@3=@4} c={0}"},
		{"(assert (= (select c i) 0.5))(assert (= (select c k) (- 2.0)))", "i=@0 k=@1 e=@0 a={@0} b={@0} c={0;@0=1/2;@1=-2}"},
	})
}

// foldedText has a part that falls away when what is lowered is simplified: x less 4 times its quotient is its remainder.
const foldedText = "(declare-const x Int)(declare-const p Bool)(declare-const r Bool)(declare-const s (_ BitVec 2))(declare-sort U 0)(declare-const y U)(declare-const z U)" +
	"(assert (or p (and (<= (+ (mod x 4) (* 4 (div x 4))) 3) (not (<= x 3)) r (= s #b11) (distinct y z))))"

// Terms that no clause tells anything of: Bools are false, words are 0.
func TestStage15ModelWithoutLiterals(t *testing.T) {
	c := readAsks(t, foldedText)
	p := c.checkPrepare(t)
	cnf := cnfOf(p)
	var bare []string
	for id, x := range p.Bank.Terms {
		if x.Op == impl.OpApp && len(cnf.Bits[id]) == 0 && cnf.Lits[id] == 0 && x.Sort != "Int" {
			bare = append(bare, x.Text)
		}
	}
	if slices.Sort(bare); !slices.Equal(bare, []string{"r", "s", "y", "z"}) {
		t.Fatalf("without literals: %v", bare)
	}
	checkModels(t, foldedText, [][2]string{{"", "x=0 p=true r=false s=#b00 y=@0 z=@1"}})
}

// What is asked may have no value in a model though all of it that matters is so: then it does not hold, and is not said to be sat.
func TestStage15NoValueAsked(t *testing.T) {
	store := "m"
	for i := range impl.EntryMax + 1 {
		store = fmt.Sprintf("(store %s %d 1)", store, i)
	}
	c := readAsks(t, "(declare-const m (Array Int Int))(assert (or true (= m "+store+")))")
	if v := impl.Solve(c.b, c.asks, 20000); !sameVerdict(v, c.verdict(20000)) || v.Status != impl.VerUnknown {
		t.Errorf("%v", v)
	}
}

// tableText says P of n constants, but for the opposites of the last ones.
func tableText(n, not int) string {
	text := "(declare-sort U 0)(declare-fun P (U) Bool)" + declaredConsts("c", "U", n)
	for i := range n {
		ask := "(P c" + strconv.Itoa(i) + ")"
		if i >= n-not {
			ask = "(not " + ask + ")"
		}
		text += "(assert " + ask + ")"
	}
	return text
}

// Exactly TableMax rows, and one more: then it is WhySize. The same arguments, and what gives the rest, are no rows more.
func TestStage15TableMax(t *testing.T) {
	for _, row := range []struct {
		text string
		rows int
	}{
		{tableText(impl.TableMax, 0), impl.TableMax}, {tableText(impl.TableMax+1, 0), -1}, {tableText(impl.TableMax+50, 0), -1}, {tableText(impl.TableMax+1, 1), impl.TableMax}, {tableText(impl.TableMax+50, 50), impl.TableMax}, {tableText(impl.TableMax+50, 49), -1},
		{tableText(impl.TableMax+1, 0) + "(assert (= c0 c1))", impl.TableMax}, {tableText(impl.TableMax+2, 1) + "(assert (= c7 c200))", impl.TableMax}, {tableText(impl.TableMax+2, 0) + "(assert (= c7 c200))", -1},
	} {
		c := readAsks(t, row.text)
		v := c.check(t, impl.MaxSteps)
		if row.rows < 0 && !sameVerdict(v, unknown(impl.WhySize)) || row.rows >= 0 && (v.Status != impl.VerSat || len(v.Model.Interps[0].Rows) != row.rows) {
			t.Errorf("%s..: status %d, why %d, want %d rows", short(row.text), v.Status, v.Why, row.rows)
		}
	}
}

// entryText has n elements of a at as many constants that are e1, which is not e0, the rest.
func entryText(n int) string {
	text := "(declare-sort U 0)(declare-sort |a b| 0)(declare-const a (Array U |a b|))" + declaredConsts("c", "U", impl.EntryMax+2) + declaredConsts("e", "|a b|", 2) + "(assert (distinct e0 e1))"
	for i := range n {
		text += "(assert (= (select a c" + strconv.Itoa(i) + ") e1))"
	}
	return text
}

// selected says that a has #b1 at such indexes.
func selected(indexes ...string) (text string) {
	for _, index := range indexes {
		text += "(assert (= (select a #b" + index + ") #b1))"
	}
	return text
}

// Exactly EntryMax entries, and one more; ValueMax bytes; and a rest that others come to be entries for: a value that is none is WhySize.
func TestStage15NoValues(t *testing.T) {
	words := func(n int) string {
		text := "(declare-const a (Array (_ BitVec 64) (_ BitVec 64)))"
		for i := range n {
			text += fmt.Sprintf("(assert (= (select a #x%016x) #xffffffffffffffff))", i+1)
		}
		return text
	}
	last := "c" + strconv.Itoa(impl.EntryMax)
	for _, row := range []struct {
		text string
		want bool
	}{
		{entryText(impl.EntryMax), true}, {entryText(impl.EntryMax + 1), false}, {entryText(impl.EntryMax+1) + "(assert (= c3 c4))", true},
		// the entry that is one too many stands in an OpStore alone, of which nothing else has the value
		{entryText(impl.EntryMax) + "(assert (= (select a " + last + ") e0))(assert (= (select (store a " + last + " e1) " + last + ") e1))", false},
		{entryText(impl.EntryMax) + "(assert (= (select a " + last + ") e0))(assert (= (select (store a " + last + " e0) " + last + ") e0))", true},
		{entryText(impl.EntryMax-1) + "(assert (= (select a " + last + ") e0))(assert (= (select (store a " + last + " e1) " + last + ") e1))", true},
		{words(14), true}, {words(15), false},
		{"(declare-const a (Array (_ BitVec 5) (_ BitVec 1)))(assert (= (select a #b00000) #b1))", true},
		{"(declare-const a (Array (_ BitVec 6) (_ BitVec 1)))(assert (= (select a #b000000) #b1))", false},
		{"(declare-const a (Array (_ BitVec 6) (_ BitVec 1)))(assert (= (select a #b000000) #b0))", true},
		{"(declare-const a (Array (_ BitVec 6) (_ BitVec 1)))(assert (= (select a #b000001) #b1))", true},
		// what is selected is put in by the order of the terms: with three entries #b000000 has 60 others, without them too many
		{"(declare-const a (Array (_ BitVec 6) (_ BitVec 1)))" + selected("000001", "000010", "111111", "000000"), true},
		{"(declare-const a (Array (_ BitVec 6) (_ BitVec 1)))" + selected("000001", "000010", "000000", "111111"), false},
		{"(declare-const a (Array (_ BitVec 6) (_ BitVec 1)))" + selected("000000", "000001", "000010", "111111"), false},
		{"(declare-const a (Array (_ BitVec 6) (_ BitVec 1)))(declare-const p Bool)(assert p)(assert (= (select (store a #b000000 #b1) #b000001) #b0))(assert (= (select a #b000000) #b0))", false},
	} {
		c := readAsks(t, row.text)
		v := c.check(t, impl.MaxSteps)
		if row.want && v.Status != impl.VerSat || !row.want && !sameVerdict(v, unknown(impl.WhySize)) {
			t.Errorf("%s..: status %d, why %d, want a model: %v", row.text[:min(len(row.text), 200)], v.Status, v.Why, row.want)
		}
	}
}
