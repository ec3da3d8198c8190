package tests

import (
	"slices"
	"strconv"
	"strings"
	"testing"

	"loop.example/g00007/impl"
)

// Constants and functions for scripts of Bools and words: P1, P2 and so on take a word so wide, and make no clauses.
const declaredWords = "(declare-sort U 0)(declare-const p Bool)(declare-const q Bool)(declare-const r Bool)(declare-const b Bool)" +
	"(declare-const s (_ BitVec 1))(declare-const t (_ BitVec 1))(declare-const m (_ BitVec 2))(declare-const n (_ BitVec 2))(declare-const e (_ BitVec 3))(declare-const f (_ BitVec 3))" +
	"(declare-const x Int)(declare-const y Int)(declare-const z Real)(declare-const u U)(declare-const v U)" +
	"(declare-const a (Array U (_ BitVec 2)))(declare-const d (Array Int Int))" +
	"(declare-fun P1 ((_ BitVec 1)) Bool)(declare-fun P2 ((_ BitVec 2)) Bool)(declare-fun P3 ((_ BitVec 3)) Bool)(declare-fun P4 ((_ BitVec 4)) Bool)" +
	"(declare-fun g (U Int) Bool)(declare-fun h (U) (_ BitVec 2))(declare-fun k (Int) Int)"

// numbersIn reads "4 -2 3".
func numbersIn(t *testing.T, text string) []int {
	t.Helper()
	var numbers []int
	for _, word := range strings.Fields(text) {
		n, err := strconv.Atoi(word)
		if err != nil {
			t.Fatal(err)
		}
		numbers = append(numbers, n)
	}
	return numbers
}

// clausesIn reads "1; 4 -2".
func clausesIn(t *testing.T, text string) [][]int {
	t.Helper()
	var clauses [][]int
	for part := range strings.SplitSeq(text, ";") {
		clauses = append(clauses, numbersIn(t, part))
	}
	return clauses
}

// clausesOf are the clauses of a script by all of its assertions.
func clausesOf(t *testing.T, text string) (impl.Cnf, impl.Bank, []int) {
	t.Helper()
	read := parsed(t, text)
	if read.Err != impl.LangOk {
		t.Fatalf("%s: Err %d at %d", text, read.Err, read.At)
	}
	var roots []int
	for _, c := range read.Script.Commands {
		roots = append(roots, c.Ids...)
	}
	c := checkClauses(t, read.Script.Bank, roots, nil)
	if !c.Ok {
		t.Fatalf("%s: not Ok", text)
	}
	return c, read.Script.Bank, roots
}

// Which clauses each gate has, in which order, written out.
func TestStage10Gates(t *testing.T) {
	const andPQ, xorPQ = "-4 2; -4 3; 4 -2 -3", "-4 2 3; -4 -2 -3; 4 -2 3; 4 2 -3"
	for _, row := range []struct {
		text    string
		clauses string
	}{
		{asserted("(and p q)"), "1; " + andPQ + "; 4"},
		{asserted("(or p q)"), "1; -4 -2; -4 -3; 4 2 3; -4"},
		{asserted("(xor p q)"), "1; " + xorPQ + "; 4"},
		{asserted("(=> p q)"), "1; -4 2; -4 -3; 4 -2 3; -4"},
		{asserted("(= p q)"), "1; " + xorPQ + "; -4"},
		{asserted("(ite p q r)"), "1; -5 2; -5 3; 5 -2 -3; -6 -2; -6 4; 6 2 -4; -7 -5; -7 -6; 7 5 6; -7"},
		{asserted("(not p)"), "1; -2"},
		{asserted("(not (not p))"), "1; 2"},
		{asserted("p"), "1; 2"},
		{asserted("(and p q r)"), "1; -5 2; -5 3; 5 -2 -3; -6 4; -6 5; 6 -4 -5; 6"},
		{asserted("(or p q r)"), "1; -5 -2; -5 -3; 5 2 3; -6 -4; -6 5; 6 4 -5; -6"},
		{asserted("(and p q r b)"), "1; -6 2; -6 3; 6 -2 -3; -7 4; -7 6; 7 -4 -6; -8 5; -8 7; 8 -5 -7; 8"},
		{asserted("(and p q p)"), "1; " + andPQ + "; -5 2; -5 4; 5 -2 -4; 5"},
		{asserted("(xor p (xor q r))"), "1; -5 3 4; -5 -3 -4; 5 -3 4; 5 3 -4; -6 2 5; -6 -2 -5; 6 -2 5; 6 2 -5; 6"},
		{asserted("(not (and p (not q)))"), "1; -4 2; -4 -3; 4 -2 3; -4"},
		// The same pair again: in either order, and with other signs where these make no other gate.
		{asserted("(and p q)", "(and q p)"), "1; " + andPQ + "; 4; 4"},
		{asserted("(and p q)", "(or (not p) (not q))", "(or (not q) (not p))", "(=> p (not q))", "(=> q (not p))"), "1; " + andPQ + "; 4; -4; -4; -4; -4"},
		{asserted("(or (not p) (not q))"), "1; " + andPQ + "; -4"},
		{asserted("(and q p)"), "1; -4 2; -4 3; 4 -2 -3; 4"}, // q is the first term, and variable 2
		{asserted("p", "(and q p)"), "1; " + andPQ + "; 2; 4"},
		{asserted("p", "(xor q p)"), "1; " + xorPQ + "; 2; 4"},
		{asserted("p", "(and (not q) p)"), "1; -4 2; -4 -3; 4 -2 3; 2; 4"},
		{asserted("p", "(and (not q) (not p))"), "1; -4 -2; -4 -3; 4 2 3; 2; 4"},
		{asserted("(and p q)", "(and p (not q))", "(and (not p) q)", "(or p q)"), "1; " + andPQ + "; -5 2; -5 -3; 5 -2 3; -6 -2; -6 3; 6 2 -3; -7 -2; -7 -3; 7 2 3; 4; 5; 6; -7"},
		{asserted("(xor p q)", "(xor q p)", "(xor (not p) q)", "(xor p (not q))", "(xor (not q) p)", "(xor (not p) (not q))", "(xor (not q) (not p))"), "1; " + xorPQ + "; 4; 4; -4; -4; -4; 4; 4"},
		{asserted("(= p q)", "(= q p)", "(= (not p) q)", "(= q (not p))", "(= (not p) (not q))"), "1; " + xorPQ + "; -4; -4; 4; 4; -4"},
		{asserted("(and p q)", "(xor p q)"), "1; " + andPQ + "; -5 2 3; -5 -2 -3; 5 -2 3; 5 2 -3; 4; 5"},
		{asserted("(ite p q r)", "(and q p)", "(and (not p) r)", "(or (and p q) (and r (not p)))"), "1; -5 2; -5 3; 5 -2 -3; -6 -2; -6 4; 6 2 -4; -7 -5; -7 -6; 7 5 6; -7; 5; 6; -7"},
	} {
		c, _, _ := clausesOf(t, declaredWords+row.text)
		if want := clausesIn(t, row.clauses); !slices.EqualFunc(c.Clauses, want, slices.Equal) {
			t.Errorf("%s: %v, want\n%v", row.text, c.Clauses, want)
		}
	}
}

// Gates with T, with F, with one literal twice and with its opposite.
func TestStage10Constants(t *testing.T) {
	for _, row := range []struct {
		text string
		lits string
	}{
		{asserted("true", "false", "(not true)", "(not false)"), "1 -1 -1 1"},
		{asserted("p", "(and p true)", "(and true p)", "(and p false)", "(and false p)", "(and p p)", "(and p (not p))", "(and (not p) p)", "(and (not p) (not p))", "(and (not p) true)", "(and true (not p))"), "2 2 2 -1 -1 2 -1 -1 -2 -2 -2"},
		{asserted("p", "(or p true)", "(or true p)", "(or p false)", "(or false p)", "(or p p)", "(or p (not p))", "(or (not p) p)", "(or (not p) (not p))", "(or (not p) false)", "(or false (not p))"), "2 1 1 2 2 2 1 1 -2 -2 -2"},
		{asserted("p", "(xor p true)", "(xor true p)", "(xor p false)", "(xor false p)", "(xor p p)", "(xor p (not p))", "(xor (not p) p)", "(xor (not p) (not p))", "(xor (not p) true)", "(xor (not p) false)"), "2 -2 -2 2 2 -1 1 1 -1 2 -2"},
		{asserted("p", "(= p true)", "(= true p)", "(= p false)", "(= false p)", "(= p p)", "(= p (not p))", "(= (not p) p)"), "2 2 2 -2 -2 1 -1 -1"},
		{asserted("p", "(=> p true)", "(=> true p)", "(=> p false)", "(=> false p)", "(=> p p)", "(=> p (not p))", "(=> (not p) p)"), "2 1 2 -2 1 1 -2 2"},
		{asserted("(and true true)", "(and true false)", "(and false true)", "(and false false)", "(or true true)", "(or true false)", "(or false true)", "(or false false)"), "1 -1 -1 -1 1 1 1 -1"},
		{asserted("(xor true true)", "(xor true false)", "(xor false true)", "(xor false false)", "(= true true)", "(= true false)", "(= false true)", "(= false false)"), "-1 1 1 -1 1 -1 -1 1"},
		{asserted("(=> true true)", "(=> true false)", "(=> false true)", "(=> false false)", "(ite true false true)", "(ite false false true)"), "1 -1 1 1 -1 1"},
		{asserted("p", "q", "(ite true p q)", "(ite false p q)", "(ite p true false)", "(ite p false true)", "(ite p false false)", "(ite p true true)"), "2 3 2 3 2 -2 -1 1"},
		{asserted("p", "(ite p p false)", "(ite p p true)", "(ite p false p)", "(ite p (not p) false)", "(ite p (not p) true)", "(ite (not p) p true)", "(ite p p (not p))", "(ite p (not p) p)", "(ite p p p)"), "2 2 1 -1 -1 -2 2 1 -1 2"},
		{asserted("p", "(or false p false p)", "(and true p true p p)", "(and p false p)", "(or p true p)"), "2 2 2 -1 1"},
	} {
		c, _, roots := clausesOf(t, declaredWords+row.text)
		var lits []int
		for _, root := range roots {
			lits = append(lits, c.Lits[root])
		}
		if want := numbersIn(t, row.lits); !slices.Equal(lits, want) || c.Roots != 1 {
			t.Errorf("%s: %v, want %v; %v", row.text, lits, want, c.Clauses)
		}
	}
	for _, row := range [][2]string{ // what a formula has on its way is made, whatever else its end could be told by
		{"(or p q true)", "1; -4 -2; -4 -3; 4 2 3; 1"},
		{"(and p true q false)", "1; -4 2; -4 3; 4 -2 -3; -1"},
		{"(ite p q q)", "1; -4 2; -4 3; 4 -2 -3; -5 -2; -5 3; 5 2 -3; -6 -4; -6 -5; 6 4 5; -6"},
		{"(ite p q (not q))", "1; -4 2; -4 3; 4 -2 -3; -5 -2; -5 -3; 5 2 3; -6 -4; -6 -5; 6 4 5; -6"},
		{"(ite p q true)", "1; -4 2; -4 3; 4 -2 -3; -5 2; -5 -4; 5 -2 4; -5"},
		{"(ite p q false)", "1; -4 2; -4 3; 4 -2 -3; 4"},
		{"(ite p true q)", "1; -4 -2; -4 3; 4 2 -3; -5 -2; -5 -4; 5 2 4; -5"},
		{"(ite p false q)", "1; -4 -2; -4 3; 4 2 -3; 4"},
		{"(ite p q p)", "1; -4 2; -4 3; 4 -2 -3; 4"},
		{"(ite p p q)", "1; -4 -2; -4 3; 4 2 -3; -5 -2; -5 -4; 5 2 4; -5"},
		{"(ite (not p) q r)", "1; -5 -2; -5 3; 5 2 -3; -6 2; -6 4; 6 -2 -4; -7 -5; -7 -6; 7 5 6; -7"},
	} {
		c, _, _ := clausesOf(t, declaredWords+asserted(row[0]))
		if want := clausesIn(t, row[1]); !slices.EqualFunc(c.Clauses, want, slices.Equal) {
			t.Errorf("%s: %v, want\n%v", row[0], c.Clauses, want)
		}
	}
}

// gatesIn are the clauses of gates written "a5=2,-3" (AND) and "x6=2,4" (XOR), behind the first clause.
func gatesIn(t *testing.T, text string) [][]int {
	t.Helper()
	clauses := [][]int{{1}}
	for _, word := range strings.Fields(text) {
		n := numbersIn(t, strings.NewReplacer("=", " ", ",", " ").Replace(word[1:]))
		g, x, y := n[0], n[1], n[2]
		if word[0] == 'a' {
			clauses = append(clauses, []int{-g, x}, []int{-g, y}, []int{g, -x, -y})
		} else {
			clauses = append(clauses, []int{-g, x, y}, []int{-g, -x, -y}, []int{g, -x, y}, []int{g, x, -y})
		}
	}
	return clauses
}

// A wordRow is a term, the gates that are made for it, in order, and the literals of its word (or its one literal).
type wordRow struct {
	text  string
	gates string
	is    string
}

// termAt finds the last term of a bank with this text.
func termAt(t *testing.T, b impl.Bank, text string) int {
	t.Helper()
	for id := len(b.Terms) - 1; id >= 0; id-- {
		if impl.TermText(b, id) == text {
			return id
		}
	}
	t.Fatalf("%s is not there", text)
	return -1
}

func checkWordRows(t *testing.T, form string, rows []wordRow) {
	t.Helper()
	for _, row := range rows {
		c, b, _ := clausesOf(t, declaredWords+asserted(strings.ReplaceAll(form, "?", row.text)))
		id := termAt(t, b, row.text)
		got := c.Bits[id]
		if b.Terms[id].Sort == "Bool" {
			got = []int{c.Lits[id]}
		}
		if want := gatesIn(t, row.gates); !slices.EqualFunc(c.Clauses[:c.Roots], want, slices.Equal) {
			t.Errorf("%s: %v, want\n%v", row.text, c.Clauses, want)
		}
		if !slices.Equal(got, numbersIn(t, row.is)) {
			t.Errorf("%s: %v, want %v", row.text, got, row.is)
		}
	}
}

func TestStage10OneDigit(t *testing.T) {
	checkWordRows(t, "?", []wordRow{
		{"(= s t)", "x4=2,3", "-4"}, {"(bvult s t)", "x4=2,3 a5=3,4", "5"}, {"(bvule s t)", "x4=2,3 a5=2,4", "-5"}, {"(bvslt s t)", "x4=2,3 a5=-3,4", "5"}, {"(bvsle s t)", "x4=2,3 a5=-2,4", "-5"},
		{"(= s s)", "", "1"}, {"(bvult s s)", "", "-1"}, {"(bvule s s)", "", "1"}, {"(bvslt s s)", "", "-1"}, {"(bvsle s s)", "", "1"},
		{"(= s #b1)", "", "2"}, {"(= #b0 s)", "", "-2"}, {"(bvult s #b1)", "", "-2"}, {"(bvult s #b0)", "", "-1"}, {"(bvult #b0 s)", "", "2"}, {"(bvslt #b0 s)", "", "-1"}, {"(bvslt #b1 s)", "", "-2"}, {"(bvsle s #b0)", "", "1"},
	})
	checkWordRows(t, "(P1 ?)", []wordRow{
		{"s", "", "2"}, {"#b0", "", "-1"}, {"#b1", "", "1"}, {"(bvnot s)", "", "-2"}, {"(bvneg s)", "", "2"},
		{"(bvand s t)", "a4=2,3", "4"}, {"(bvor s t)", "a4=-2,-3", "-4"}, {"(bvxor s t)", "x4=2,3", "4"},
		{"(bvadd s t)", "x4=2,3 a5=2,3", "4"}, {"(bvsub s t)", "x4=2,3 a5=2,-3 a6=4,-5", "4"}, {"(bvmul s t)", "a4=2,3", "4"},
		{"(bvudiv s t)", "x4=2,3 a5=2,-3 a6=4,-5 a7=3,4 a8=4,-7 a9=2,7 a10=-8,-9 a11=6,-7", "-7"},
		{"(bvurem s t)", "x4=2,3 a5=2,-3 a6=4,-5 a7=3,4 a8=4,-7 a9=2,7 a10=-8,-9 a11=6,-7", "-10"},
		{"(bvshl s t)", "a4=2,-3", "4"}, {"(bvlshr s t)", "a4=2,-3", "4"}, {"(bvashr s t)", "a4=2,3 a5=2,-3 a6=-4,-5", "-6"},
	})
}

func TestStage10TwoDigits(t *testing.T) {
	checkWordRows(t, "?", []wordRow{
		{"(= m n)", "x6=2,4 x7=3,5 a8=-6,-7", "8"},
		{"(bvult m n)", "x6=2,4 a7=4,6 x8=3,5 a9=5,8 a10=7,-8 a11=-9,-10", "-11"},
		{"(bvule m n)", "x6=2,4 a7=2,6 x8=3,5 a9=3,8 a10=7,-8 a11=-9,-10", "11"},
		{"(bvslt m n)", "x6=2,4 a7=4,6 x8=3,5 a9=-5,8 a10=7,-8 a11=-9,-10", "-11"},
		{"(bvsle m n)", "x6=2,4 a7=2,6 x8=3,5 a9=-3,8 a10=7,-8 a11=-9,-10", "11"},
		{"(= m #b10)", "a4=-2,3", "4"}, {"(= #b01 m)", "a4=2,-3", "4"}, {"(= m m)", "", "1"},
	})
	checkWordRows(t, "(P2 ?)", []wordRow{
		{"m", "", "2 3"}, {"#b10", "", "-1 1"}, {"#b01", "", "1 -1"}, {"(bvnot m)", "", "-2 -3"},
		{"(bvneg m)", "x4=2,3 a5=-2,-3", "2 4"}, // p is -m; the carry into bit 1 is -2, and the last one is worked out, too
		{"(bvand m n)", "a6=2,4 a7=3,5", "6 7"}, {"(bvor m n)", "a6=-2,-4 a7=-3,-5", "-6 -7"}, {"(bvxor m n)", "x6=2,4 x7=3,5", "6 7"},
		{"(bvadd m n)", "x6=2,4 a7=2,4 x8=3,5 x9=7,8 a10=3,5 a11=7,8 a12=-10,-11", "6 9"},
		{"(bvsub m n)", "x6=2,4 a7=2,-4 a8=6,-7 x9=3,5 x10=8,9 a11=3,-5 a12=-8,-9 a13=-11,-12", "6 10"},
		{"(bvmul m n)", "a6=2,4 a7=3,4 a8=2,5 x9=7,8 a10=7,8", "6 9"},
		{"(bvshl m n)", "a6=2,-4 a7=2,4 a8=3,-4 a9=-7,-8 a10=-5,6 a11=-5,-9", "10 11"},
		{"(bvlshr m n)", "a6=3,4 a7=2,-4 a8=-6,-7 a9=3,-4 a10=-5,-8 a11=-5,9", "10 11"},
		{"(bvashr m n)", "a6=3,4 a7=2,-4 a8=-6,-7 a9=3,-4 a10=-6,-9 a11=3,5 a12=-5,-8 a13=-11,-12 a14=-5,-10 a15=-11,-14", "-13 -15"},
		{"(concat s t)", "", "3 2"}, {"((_ extract 2 1) e)", "", "3 4"}, {"((_ extract 1 0) e)", "", "2 3"}, {"((_ zero_extend 1) s)", "", "2 -1"}, {"((_ sign_extend 1) s)", "", "2 2"},
		{"(h u)", "", "2 3"}, {"(select a v)", "", "2 3"},
	})
	checkWordRows(t, "(P3 ?)", []wordRow{
		{"(concat s m)", "", "3 4 2"}, {"(concat m s)", "", "4 2 3"}, {"(concat #b0 m)", "", "2 3 -1"}, {"((_ zero_extend 2) s)", "", "2 -1 -1"}, {"((_ sign_extend 1) m)", "", "2 3 3"}, {"((_ sign_extend 2) #b1)", "", "1 1 1"},
		// A width that is no power of two: steps by 1 and by 2, and bit 2 takes all away.
		{"(bvshl e f)", "a8=2,-5 a9=2,5 a10=3,-5 a11=-9,-10 a12=3,5 a13=4,-5 a14=-12,-13 a15=-6,8 a16=-6,-11 a17=6,8 a18=-6,-14 a19=-17,-18 a20=-7,15 a21=-7,16 a22=-7,-19", "20 21 22"},
		{"(bvlshr e #b010)", "", "4 -1 -1"}, {"(bvshl e #b001)", "", "-1 2 3"}, {"(bvashr e #b001)", "", "3 4 4"}, {"(bvashr e #b010)", "", "4 4 4"},
		{"(bvshl e #b100)", "", "-1 -1 -1"}, {"(bvlshr e #b111)", "", "-1 -1 -1"}, {"(bvashr e #b101)", "", "4 4 4"}, {"(bvshl e #b011)", "", "-1 -1 -1"}, {"(bvashr e #b011)", "", "4 4 4"}, {"(bvshl e #b000)", "", "2 3 4"},
	})
	checkWordRows(t, "(P1 ?)", []wordRow{{"((_ extract 0 0) e)", "", "2"}, {"((_ extract 2 2) e)", "", "4"}, {"((_ extract 1 1) m)", "", "3"}})
	checkWordRows(t, "(P4 ?)", []wordRow{{"(concat m n)", "", "4 5 2 3"}, {"((_ sign_extend 2) m)", "", "2 3 3 3"}, {"((_ zero_extend 3) s)", "", "2 -1 -1 -1"}, {"(concat s e)", "", "3 4 5 2"}})
}

// Division by a word of zeros: all ones, and what was divided, whatever that is.
func TestStage10DivisionByZero(t *testing.T) {
	for _, row := range [][2]string{{"(bvudiv m #b00)", "1 1"}, {"(bvurem m #b00)", "2 3"}, {"(bvudiv m #b01)", "2 3"}, {"(bvurem m #b01)", "-1 -1"}, {"(bvudiv #b11 #b00)", "1 1"}, {"(bvurem #b10 #b00)", "-1 1"}} {
		c, b, _ := clausesOf(t, declaredWords+asserted("(P2 "+row[0]+")"))
		word := c.Bits[termAt(t, b, row[0])]
		for _, a := range assignments(c, b) {
			if !propagate(c.Clauses[:c.Roots], a) {
				t.Fatalf("%s: %v", row[0], a)
			}
			for i, want := range numbersIn(t, row[1]) {
				if truth(a, word[i]) != truth(a, want) {
					t.Errorf("%s, bit %d: %v", row[0], i, a)
				}
			}
		}
	}
}

// Terms with a variable of their own, and which of them are Atoms.
func TestStage10Atoms(t *testing.T) {
	for _, row := range []struct {
		text  string
		lit   int
		isOne bool
	}{
		{"p", 2, false}, {"(not (g u x))", -2, false}, {"(g u x)", 2, true}, {"(P1 s)", 3, true}, {"(P2 m)", 4, true}, {"(P2 #b01)", 2, true}, {"(P2 (h u))", 4, true}, {"(P2 (select a u))", 4, true},
		{"(<= x y)", 2, true}, {"(< x y)", 2, true}, {"(<= z 1.5)", 2, true}, {"(< (+ x (k y)) (* 3 x))", 2, true}, {"(<= (to_real x) z)", 2, true}, {"(< 1 2)", 2, true}, {"(<= x x)", 2, true},
		{"(= x y)", 2, true}, {"(= z z)", 2, true}, {"(= u v)", 2, true}, {"(= u u)", 2, true}, {"(= a a)", 2, true}, {"(= d (store d x y))", 2, true}, {"(= (k x) (select d y))", 2, true}, {"(= (select a u) (select a v))", 8, true},
		{"(= p q)", -4, false}, {"(= p p)", 1, false}, {"(= m n)", 8, true}, {"(= m m)", 1, true}, {"(= #b1 #b0)", -1, true}, {"(= #b1 #b1)", 1, true}, {"(bvult s t)", 5, false}, {"(bvule m m)", 1, false}, {"(and p q)", 4, false}, {"true", 1, false}, {"(ite p q r)", -7, false},
	} {
		c, b, roots := clausesOf(t, declaredWords+asserted(row.text))
		if c.Lits[roots[0]] != row.lit || slices.Contains(c.Atoms, impl.Atom{Lit: row.lit, Term: roots[0]}) != row.isOne {
			t.Errorf("%s: literal %d, atoms %v", row.text, c.Lits[roots[0]], c.Atoms)
		}
		for _, atom := range c.Atoms {
			if c.Lits[atom.Term] != atom.Lit || atom.Lit == 0 {
				t.Errorf("%s: %v is %s, with the literal %d", row.text, atom, impl.TermText(b, atom.Term), c.Lits[atom.Term])
			}
		}
	}
	c, _, roots := clausesOf(t, declaredWords+asserted("(or (< x y) p)", "(= s t)", "(xor (g u x) (= u v))", "(= p q)", "(<= y x)", "(= (= x y) (P1 s))"))
	var lits []int
	for i, atom := range c.Atoms {
		lits = append(lits, atom.Lit)
		if i > 0 && c.Atoms[i-1].Term >= atom.Term {
			t.Errorf("%v", c.Atoms)
		}
	}
	// x y (< x y)=2 p=3 or=4, s=5 t=6 xor=7, (g u x)=8 (= u v)=9 xor=10, q=11 xor=12, (<= y x)=13, (= x y)=14 (P1 s)=15
	if want := []int{2, -7, 8, 9, 13, 14, 15}; !slices.Equal(lits, want) || c.Lits[roots[1]] != -7 || c.Vars != 16 {
		t.Errorf("%v, want %v; %d variables", lits, want, c.Vars)
	}
}

// Two functions of the same kids, an array's word read twice: each term has variables of its own, where it stands.
func TestStage10Variables(t *testing.T) {
	c, b, _ := clausesOf(t, declaredWords+asserted("(P2 (h u))", "(P2 (h v))", "p", "(P2 (bvand (select a u) m))", "(g v (k x))"))
	for text, want := range map[string]string{"(h u)": "2 3", "(P2 (h u))": "4", "(h v)": "5 6", "(P2 (h v))": "7", "p": "8", "(select a u)": "9 10", "m": "11 12", "(bvand (select a u) m)": "13 14", "(P2 (bvand (select a u) m))": "15", "(g v (k x))": "16", "(k x)": "", "x": "", "u": "", "a": ""} {
		id := termAt(t, b, text)
		got := c.Bits[id]
		if c.Lits[id] != 0 {
			got = append(slices.Clone(got), c.Lits[id])
		}
		if !slices.Equal(got, numbersIn(t, want)) {
			t.Errorf("%s: %v, want %s", text, got, want)
		}
	}
	if c.Vars != 16 {
		t.Errorf("%d variables", c.Vars)
	}
}
