package tests

import (
	"slices"
	"testing"

	"loop.example/g00007/impl"
)

// readCase reads a script: what it asserts are roots, what a check assumes are asks, what values are asked of is shared.
func readCase(t *testing.T, text string) searchCase {
	t.Helper()
	res := parsed(t, text)
	if res.Err != impl.LangOk {
		t.Fatalf("%s: error %d at %d", text, res.Err, res.At)
	}
	c := searchCase{b: res.Script.Bank}
	for _, command := range res.Script.Commands {
		switch command.Kind {
		case impl.CmdAssert:
			c.roots = append(c.roots, command.Ids...)
		case impl.CmdCheck:
			c.asks = append(c.asks, command.Ids...)
		case impl.CmdValue:
			c.shared = append(c.shared, command.Ids...)
		}
	}
	return c
}

// A foundRow is a script and what the search of it finds, worked out by hand.
type foundRow struct {
	text string
	want impl.Found
}

// checkFoundRows asks with all steps, and with each number up to some more than are needed. The second reading must say the same.
func checkFoundRows(t *testing.T, declared string, rows []foundRow) {
	t.Helper()
	for _, r := range rows {
		c := readCase(t, declared+r.text)
		c.checkFound(t, impl.MaxSteps, r.want)
		for limit := range r.want.Steps + 3 {
			c.checkLimits(t, r.want, limit)
		}
		if want, _ := plainFound(t, c.b, c.roots, c.asks, c.shared, impl.MaxSteps); !sameFound(want, r.want) {
			t.Fatalf("%s: the second reading says %v", r.text, want)
		}
	}
}

// sat and unsat are what a search ends with; values has a letter for each variable, T or F.
func sat(steps int, values string) impl.Found {
	f := impl.Found{Status: impl.SearchSat, Steps: steps}
	for _, letter := range values {
		f.Values = append(f.Values, letter == 'T')
	}
	return f
}

func withNumbers(f impl.Found, cols []int, vals ...string) impl.Found {
	f.Cols, f.Vals = cols, vals
	return f
}

func unsat(steps int, core []int, trace ...impl.Lemma) impl.Found {
	return impl.Found{Status: impl.SearchUnsat, Steps: steps, Core: core, Trace: trace}
}

func chain(lits []int, numbers ...int) impl.Lemma {
	return impl.Lemma{Kind: impl.LemChain, Lits: lits, Chain: numbers}
}

func equal(lits ...int) impl.Lemma {
	return impl.Lemma{Kind: impl.LemEqual, Lits: lits}
}

func linear(lits []int, tree ...impl.TreeNode) impl.Lemma {
	return impl.Lemma{Kind: impl.LemLinear, Lits: lits, Tree: tree}
}

func leafWith(mult ...string) impl.TreeNode {
	return impl.TreeNode{Col: -1, Mult: mult}
}

const boolConsts = "(declare-const p Bool)(declare-const q Bool)(declare-const r Bool)"

// Clauses alone, without asks. Variables: p 2, q 3; then each or of two its gate.
func TestStage14Bools(t *testing.T) {
	checkFoundRows(t, boolConsts, []foundRow{
		{"", sat(1, "T")},
		{"(assert true)", sat(1, "T")},
		{"(get-value (false))", sat(1, "T")},
		// [1] [-1]
		{"(assert false)", unsat(2, nil, chain(nil, 1, 0))},
		// [1] [-4 2] [-4 3] [4 -2 -3] [4]
		{"(assert (and p q))", sat(4, "TTTT")},
		// p and q are decided, to false
		{"(get-value (p q))", sat(3, "TFF")},
		// [1] [-4 2] [-4 3] [4 -2 -3] [-2]: 2 is false, and 4 with it; 3 is decided
		{"(assert (not p))(get-value ((and p q)))", sat(4, "TFFF")},
		// [1] [2] [-2]: clause 2 is false, and 2 was made true by clause 1
		{"(assert p)(assert (not p))", unsat(3, nil, chain(nil, 2, 1))},
		{"(assert (not p))(assert p)", unsat(3, nil, chain(nil, 2, 1))},
		// [1] [2] [2]: nothing is left to do for clause 2
		{"(assert p)(assert p)", sat(2, "TT")},
		// [1] [-4 -2] [-4 -3] [4 2 3] [-5 -2] [-5 3] [5 2 -3] [-4] [-5]: -2 is decided, 3 follows, [5 2 -3] is false; [2 4 5] is learned; 2
		// follows from it at level 0. 3 is decided to the value that it had.
		{"(assert (or p q))(assert (or p (not q)))", sat(8, "TTTFF")},
		// behind these [-6 2] [-6 -3] [6 -2 3] [-7 2] [-7 3] [7 -2 -3], and the roots 13 to 16: all that is false is so at level 0 in the end
		{"(assert (or p q))(assert (or p (not q)))(assert (or (not p) q))(assert (or (not p) (not q)))", unsat(11, nil, chain([]int{2, 4, 5}, 6, 3), chain(nil, 12, 9, 17, 16, 15, 14, 13))},
	})
}

// What is learned has one literal: all is taken back.
func TestStage14OneLiteral(t *testing.T) {
	// [1] [-4 2] [-4 3] [4 -2 -3] [-5 2 3] [-5 -2 -3] [5 -2 3] [5 2 -3] [-6 4] [-6 5] [6 -4 -5]: 6 is decided; 4 2 3 -5 follow, and number 9 is false
	checkFoundRows(t, boolConsts, []foundRow{
		{"(check-sat-assuming ((and (and p q) (xor p q))))", unsat(8, []int{0}, chain([]int{-6}, 9, 5, 2, 1, 8), chain([]int{-6}, 11))},
		// r, which is 7, is level 1: it is taken back, and comes to be true again
		{"(get-value ((and (and p q) (xor p q))))(check-sat-assuming (r (and (and p q) (xor p q))))", unsat(10, []int{1}, chain([]int{-6}, 9, 5, 2, 1, 8), chain([]int{-6}, 11))},
	})
	u := "(declare-sort U 0)(declare-const x U)(declare-const y U)(declare-fun f (U) U)"
	checkFoundRows(t, u, []foundRow{
		// (= x y) is 2, (= (f x) (f y)) is 3: 2 is asked for, 3 is decided to be false, and they clash; 3 follows at level 1
		{"(check-sat-assuming ((= x y)))(get-value ((= (f x) (f y))))", sat(6, "TTT")},
		// x and x: that this is not so clashes by itself. [2] is a lemma of one literal, and follows at level 0.
		{"(get-value ((= x x)))", sat(5, "TT")},
		{"(check-sat-assuming ((not (= x x))))", unsat(5, []int{0}, equal(2), chain([]int{2}, 1))},
		{"(assert (not (= x x)))", unsat(4, nil, equal(2), chain(nil, 2, 1))},
		// the ask (= x y) is level 1 and (not (= x x)) level 2, but all is taken back
		{"(check-sat-assuming ((= x y) (not (= x x))))", unsat(7, []int{1}, equal(3), chain([]int{3}, 1))},
	})
}

// Asks: p 2, q 3, r 4 or as they come.
func TestStage14Asks(t *testing.T) {
	checkFoundRows(t, boolConsts, []foundRow{
		{"(check-sat-assuming (p))", sat(2, "TT")},
		{"(check-sat-assuming ((not q) p))", sat(3, "TFT")},
		{"(check-sat-assuming (p p p))", sat(2, "TT")},
		{"(check-sat-assuming (true))", sat(1, "T")},
		{"(check-sat-assuming (false))", unsat(1, []int{0}, chain([]int{1}, 0))},
		{"(check-sat-assuming (p false p false))", unsat(2, []int{1}, chain([]int{1}, 0))},
		// 4 is false where p and q are: [4 2 3] is the reason
		{"(check-sat-assuming ((not p) (not q) (or p q)))", unsat(4, []int{0, 1, 2}, chain([]int{2, 3, 4}, 3))},
		{"(check-sat-assuming ((or p q) (not q) (not p)))", unsat(4, []int{0, 1, 2}, chain([]int{2, 3, 4}, 3))},
		// [1] [-4 2] [-4 -3] [4 -2 3] [-6 3] [-6 -5] [6 -3 5] [-4] [-6]: p is decided, q and r follow
		{"(assert (=> p q))(assert (=> q r))(check-sat-assuming (p (not r)))", unsat(6, []int{0, 1}, chain([]int{-2, 5}, 6, 3, 8, 7))},
		// of asks that are there twice the first ones are told, and those that play no part are not
		{"(assert (=> p q))(check-sat-assuming (r p r p (not q) (not q)))", unsat(5, []int{1, 4}, chain([]int{-2, 3}, 3, 4))},
		// an ask that is false at level 0: the roots alone say so
		{"(assert p)(check-sat-assuming (q (not p)))", unsat(3, []int{1}, chain([]int{2}, 1))},
		{"(assert (and p q))(check-sat-assuming (r (not q)))", unsat(5, []int{1}, chain([]int{3}, 2, 4))},
	})
}

// Two asks that are opposite end the search before it begins, whatever else is asked: the second is the least, then the first.
func TestStage14OppositeAsks(t *testing.T) {
	checkFoundRows(t, boolConsts, []foundRow{
		{"(check-sat-assuming (p (not p)))", unsat(0, []int{0, 1})},
		{"(check-sat-assuming (q p (not p) (not q)))", unsat(0, []int{1, 2})},
		{"(check-sat-assuming (q p p (not p) (not q)))", unsat(0, []int{1, 3})},
		{"(check-sat-assuming (q (not p) p p (not q)))", unsat(0, []int{1, 2})},
		{"(check-sat-assuming (p p (not p) (not p)))", unsat(0, []int{0, 2})},
		{"(check-sat-assuming (p q r (not r) (not q) (not p)))", unsat(0, []int{2, 3})},
		{"(check-sat-assuming (false true))", unsat(0, []int{0, 1})},
		{"(check-sat-assuming (q (= p p) (xor p p)))", unsat(0, []int{1, 2})},
		{"(assert false)(check-sat-assuming (p (not (not (not p)))))", unsat(0, []int{0, 1})},
		{"(check-sat-assuming ((and p q) (or (not p) (not q))))", unsat(0, []int{0, 1})},
		{"(check-sat-assuming ((and p q) (or (not q) (not p))))", unsat(0, []int{0, 1})},
	})
}

const numberConsts = "(declare-const x Int)(declare-const y Int)(declare-const z Int)(declare-const u Real)(declare-const v Real)"

// Inequalities: the variables are those of the terms, by their indexes.
func TestStage14Numbers(t *testing.T) {
	branch := impl.TreeNode{Col: 0, At: "0"}
	checkFoundRows(t, numberConsts, []foundRow{
		{"(check-sat-assuming ((<= x 3)))", withNumbers(sat(2, "TT"), []int{2}, "0")},
		{"(assert (<= 5 y))(assert (< x 3))", withNumbers(sat(3, "TTT"), []int{3, 5}, "5", "0")},
		{"(assert (not (<= u 1.5)))(assert (not (< v u)))", withNumbers(sat(3, "TFF"), []int{2, 6}, "2", "2")},
		// of the variable that is free the phase is false: not x <= 3
		{"(get-value ((<= x 3)))", withNumbers(sat(2, "TF"), []int{2}, "4")},
		// the three of them: the lemma is number 1, and one of the top level
		{"(check-sat-assuming ((<= x 3) (<= 5 y) (<= y x)))", unsat(7, []int{0, 1, 2}, linear([]int{-2, -3, -4}, leafWith("1", "1", "1")), chain([]int{-2, -3, -4}, 1))},
		// [1] [2] [3]: at level 0
		{"(assert (<= x 3))(assert (<= 5 x))", unsat(5, nil, linear([]int{-2, -3}, leafWith("1", "1")), chain(nil, 3, 2, 1))},
		// a row without a column
		{"(assert (<= 5 3))", unsat(4, nil, linear([]int{-2}, leafWith("1")), chain(nil, 2, 1))},
		{"(check-sat-assuming ((< x x)))", unsat(5, []int{0}, linear([]int{-2}, leafWith("1")), chain([]int{-2}, 1))},
		// 2u <= 3 is 2, 7 <= 3u is 3: by these, however they are asked for, the factors stand
		{"(get-value ((<= (* 2.0 u) 3.0)))(check-sat-assuming ((<= 7.0 (* 3.0 u)) (<= (* 2.0 u) 3.0)))",
			unsat(6, []int{0, 1}, linear([]int{-2, -3}, leafWith("3", "2")), chain([]int{-2, -3}, 1))},
		// whole numbers: 2x <= 3 is x <= 1, 3 <= 2x is x >= 2
		{"(check-sat-assuming ((<= (* 2 x) 3) (<= 3 (* 2 x))))", unsat(6, []int{0, 1}, linear([]int{-2, -3}, leafWith("1", "1")), chain([]int{-2, -3}, 1))},
		// 5x - y <= 2, 5x + y >= 3, y <= 1: numbers meet them, but no whole ones. That is looked at when z <= 0 is decided, too, which is left out
		{"(check-sat-assuming ((<= (- (* 5 x) y) 2) (<= 3 (+ (* 5 x) y)) (<= y 1)))(get-value ((<= z 0)))",
			unsat(8, []int{0, 1, 2}, linear([]int{-2, -3, -4}, branch, leafWith("0", "1", "1", "5"), leafWith("1", "0", "1", "5")), chain([]int{-2, -3, -4}, 1))},
		// all of it at level 0
		{"(assert (<= (- (* 5 x) y) 2))(assert (<= 3 (+ (* 5 x) y)))(assert (<= y 1))(get-value ((<= z 0)))",
			unsat(7, nil, linear([]int{-2, -3, -4}, branch, leafWith("0", "1", "1", "5"), leafWith("1", "0", "1", "5")), chain(nil, 4, 3, 2, 1))},
		// asked for in another order: the factors stand by the variables
		{"(get-value ((<= (- (* 5 x) y) 2) (<= 3 (+ (* 5 x) y)) (<= y 1)))(check-sat-assuming ((<= y 1) (<= 3 (+ (* 5 x) y)) (<= (- (* 5 x) y) 2)))",
			unsat(7, []int{0, 1, 2}, linear([]int{-2, -3, -4}, branch, leafWith("0", "1", "1", "5"), leafWith("1", "0", "1", "5")), chain([]int{-2, -3, -4}, 1))},
	})
}

// Of facts of which a part would do, the first ones of the trail are left out.
func TestStage14OrderOfFacts(t *testing.T) {
	rows := "(get-value ((<= x 3) (<= x 2) (<= 5 x)))"
	leaf := leafWith("1", "1")
	checkFoundRows(t, numberConsts, []foundRow{
		{rows + "(check-sat-assuming ((<= x 3) (<= x 2) (<= 5 x)))", unsat(7, []int{1, 2}, linear([]int{-3, -4}, leaf), chain([]int{-3, -4}, 1))},
		{rows + "(check-sat-assuming ((<= x 2) (<= x 3) (<= 5 x)))", unsat(7, []int{1, 2}, linear([]int{-2, -4}, leaf), chain([]int{-2, -4}, 1))},
		{rows + "(check-sat-assuming ((<= 5 x) (<= x 3) (<= x 2)))", unsat(6, []int{0, 1}, linear([]int{-2, -4}, leaf), chain([]int{-2, -4}, 1))},
		// at level 0 by the roots' order
		{rows + "(assert (<= x 2))(assert (<= x 3))(assert (<= 5 x))", unsat(6, nil, linear([]int{-2, -4}, leaf), chain(nil, 4, 3, 2))},
		{rows + "(assert (<= 5 x))(assert (<= x 3))(assert (<= x 2))", unsat(6, nil, linear([]int{-3, -4}, leaf), chain(nil, 4, 3, 1))},
	})
	u := "(declare-sort U 0)(declare-const a U)(declare-const c U)(declare-fun f (U) U)(get-value ((= a c) (= c a) (= (f a) (f c))))"
	checkFoundRows(t, u, []foundRow{
		{"(check-sat-assuming ((= a c) (= c a) (not (= (f a) (f c)))))", unsat(7, []int{1, 2}, equal(-3, 4), chain([]int{-3, 4}, 1))},
		{"(check-sat-assuming ((= c a) (= a c) (not (= (f a) (f c)))))", unsat(7, []int{1, 2}, equal(-2, 4), chain([]int{-2, 4}, 1))},
		{"(check-sat-assuming ((not (= (f a) (f c))) (= c a) (= a c)))", unsat(6, []int{0, 1}, equal(-3, 4), chain([]int{-3, 4}, 1))},
	})
	// The literals of (= s #b1) and (= (bvnot s) #b0) are one variable.
	w := "(declare-sort U 0)(declare-const s (_ BitVec 1))(declare-const q Bool)(declare-fun f ((_ BitVec 1)) U)(declare-fun g ((_ BitVec 1) (_ BitVec 1)) U)"
	checkFoundRows(t, w, []foundRow{
		// it is 2, and its facts come by their order in Atoms: the first is left out, as the second clashes with what q says, too
		{"(get-value ((= s #b1) (= (bvnot s) #b0)))(assert (=> q (not (= (f s) (f #b1)))))(assert (=> q (not (= (f (bvnot s)) (f #b0)))))(check-sat-assuming ((= s #b1) q))",
			unsat(11, []int{0, 1}, equal(-2, 6), chain([]int{-2, -3}, 6, 9, 8))},
		// both are in the core, their literal once in the lemma
		{"(get-value ((= s #b1) (= #b1 s) (= (bvnot s) #b0)))(check-sat-assuming ((= s #b1) (not (= (g s (bvnot s)) (g #b1 #b0)))))", unsat(6, []int{0, 1}, equal(-2, 3), chain([]int{-2, 3}, 1))},
		// the facts of the false ask (= s #b0) are not On: nothing clashes
		{"(get-value ((= s #b1) (= (bvnot s) #b0)))(check-sat-assuming ((= s #b0) (not (= (g s (bvnot s)) (g #b1 #b0)))))", sat(3, "TFF")},
	})
}

// In a round clauses come ahead of equations, these ahead of rows, these ahead of asks, asks ahead of other variables, and whole numbers last.
func TestStage14OrderOfRounds(t *testing.T) {
	d := numberConsts + "(declare-sort U 0)(declare-const a U)(declare-const c U)(declare-fun f (U) U)(declare-const p Bool)(declare-const q Bool)"
	equations, rows := "(assert (=> p (= a c)))(assert (not (= (f a) (f c))))", "(assert (=> p (<= x 0)))(assert (<= 1 x))"
	thin := "(assert (=> p (<= (- (* 5 x) y) 2)))(assert (<= 3 (+ (* 5 x) y)))(assert (<= y 1))"
	clauses := "(assert (=> p q))(assert (=> p (not q)))"
	for _, row := range []struct {
		text   string
		kind   int
		branch bool
	}{
		{equations + rows, impl.LemEqual, false}, {rows + equations, impl.LemEqual, false}, {equations + thin, impl.LemEqual, false}, {thin + equations, impl.LemEqual, false},
		{rows, impl.LemLinear, false}, {rows + thin, impl.LemLinear, false}, {thin + rows, impl.LemLinear, false}, {thin, impl.LemLinear, true},
		{equations + rows + clauses, impl.LemChain, false}, {clauses + rows, impl.LemChain, false}, {thin + clauses, impl.LemChain, false},
	} {
		f, _ := readCase(t, d+row.text+"(check-sat-assuming (p))").check(t)
		if f.Status != impl.SearchUnsat || f.Trace[0].Kind != row.kind || (len(f.Trace[0].Tree) > 1) != row.branch {
			t.Errorf("%s: %v", row.text, f)
		}
		for _, lemma := range f.Trace[1:] {
			if lemma.Kind != impl.LemChain {
				t.Errorf("%s: %v", row.text, f)
			}
		}
	}
	// the ask q is not decided as long as the rows of what p says are not met
	f, _ := readCase(t, d+rows+"(check-sat-assuming (p q))").check(t)
	g, _ := readCase(t, d+rows+"(check-sat-assuming (p))").check(t)
	if f.Steps != g.Steps || !slices.Equal(f.Core, []int{0}) {
		t.Errorf("%v and %v", f, g)
	}
}

// Conflicts of one literal of the top level and of more, and how far the trail is taken back.
func TestStage14Conflicts(t *testing.T) {
	u := "(declare-sort U 0)(declare-const a U)(declare-const c U)(declare-const e U)(declare-fun f (U) U)(declare-const p Bool)(declare-const q Bool)"
	checkFoundRows(t, u, []foundRow{
		// (= a c) 2, p 3, (= (f a) (f c)) 4, by the asks 2 and 3 of levels 1 and 2; -4 clashes at level 3, with 2 alone: back to level 1, where 4 follows
		{"(check-sat-assuming ((= a c) p))(get-value ((= (f a) (f c))))", sat(8, "TTTT")},
		// p is 2, (= a c) 3, (= (f a) (f c)) 5, and the roots are -4 and -6: the clash has two literals of level 1, and is resolved till p is left
		{"(assert (=> p (= a c)))(assert (=> p (not (= (f a) (f c)))))(check-sat-assuming (p))",
			unsat(9, []int{0}, equal(-3, 5), chain([]int{-2, 4, 6}, 9, 6, 3), chain([]int{-2}, 10, 8, 7))},
	})
}
