package tests

import (
	"math/rand"
	"slices"
	"strconv"
	"testing"

	"loop.example/g00007/impl"
)

// rowsCase reads a script: each of what it asserts is a fact that is On, what stands in a not one that is not.
func rowsCase(t *testing.T, text string) (b impl.Bank, facts []impl.Fact) {
	t.Helper()
	c := readCase(t, text)
	for _, id := range c.roots {
		if x := c.b.Terms[id]; x.Op == impl.OpNot {
			facts = append(facts, notOn(x.Kids[0]))
		} else {
			facts = append(facts, on(id))
		}
	}
	return c.b, facts
}

// rowSet has flags as flagsOf reads them.
func rowSet(cols []int, flags string, rows ...impl.LinRow) impl.RowSet {
	return impl.RowSet{Ok: true, Cols: cols, Whole: flagsOf(flags), Rows: rows}
}

// Rows by hand: x and y are terms 2 and 3, u and v 4 and 5.
func TestStage14RowsOf(t *testing.T) {
	d := numberConsts + "(get-value (x y u v))"
	for _, row := range []struct {
		text string
		want impl.RowSet
	}{
		{"", rowSet(nil, "")},
		// On and not On, of OpLe and OpLt
		{"(assert (<= x 3))", rowSet([]int{2}, "w", atMost("3", "1"))},
		{"(assert (< x 3))", rowSet([]int{2}, "w", below("3", "1"))},
		{"(assert (not (<= x 3)))", rowSet([]int{2}, "w", below("-3", "-1"))},
		{"(assert (not (< x 3)))", rowSet([]int{2}, "w", atMost("-3", "-1"))},
		{"(assert (<= u (- 1.5)))", rowSet([]int{4}, "r", atMost("-3", "2"))},
		{"(assert (not (< u (- 1.5))))", rowSet([]int{4}, "r", atMost("3", "-2"))},
		// both sides, and no common divisor is taken out
		{"(assert (<= (+ (* 2 x) 4) (+ (* 6 y) (- 8))))", rowSet([]int{2, 3}, "ww", atMost("-12", "2", "-6"))},
		{"(assert (< (* 2.0 u) (* 4.0 v)))", rowSet([]int{4, 5}, "rr", below("0", "2", "-4"))},
		// the least number that makes all whole, the Bound too
		{"(assert (<= (* 0.5 u) (/ 1.0 3.0)))", rowSet([]int{4}, "r", atMost("2", "3"))},
		{"(assert (<= (+ (* 0.5 u) (* 0.25 v)) 0.0))", rowSet([]int{4, 5}, "rr", atMost("0", "2", "1"))},
		{"(assert (<= (* 1.5 u) (* 0.5 v)))", rowSet([]int{4, 5}, "rr", atMost("0", "3", "-1"))},
		{"(assert (<= u (/ 1.0 7.0)))", rowSet([]int{4}, "r", atMost("1", "7"))},
		// an OpToReal counts as the sum that its kid is
		{"(assert (< (+ (to_real x) (* 0.5 u)) 2.0))", rowSet([]int{2, 4}, "wr", below("4", "2", "1"))},
		{"(assert (<= (* 0.5 (to_real (+ (* 2 x) (* 4 y) 3))) u))", rowSet([]int{2, 3, 4}, "wwr", atMost("-3", "2", "4", "-2"))},
		{"(assert (<= (to_real 3) u))", rowSet([]int{4}, "r", atMost("-3", "-1"))},
		{"(assert (<= (to_real (- x x)) u))", rowSet([]int{4}, "r", atMost("0", "-1"))},
		{"(assert (<= (to_real x) (- (to_real y) (to_real x))))", rowSet([]int{2, 3}, "ww", atMost("0", "2", "-1"))},
		{"(assert (<= (to_real (+ x 1)) (to_real (+ x y))))", rowSet([]int{3}, "w", atMost("-1", "-1"))},
		// rows without a column
		{"(assert (<= 3 4))", rowSet(nil, "", atMost("1"))},
		{"(assert (not (<= 3 4)))", rowSet(nil, "", below("-1"))},
		{"(assert (< x x))", rowSet(nil, "", below("0"))},
		{"(assert (<= (+ u 0.5) u))", rowSet(nil, "", atMost("-1"))},
		{"(assert (< x x))(assert (<= x y))", rowSet([]int{2, 3}, "ww", below("0", "0", "0"), atMost("0", "1", "-1"))},
		// columns by term, each once; rows by fact
		{"(assert (<= v u))(assert (<= y x))(assert (< u 1.0))(assert (<= y x))", rowSet([]int{2, 3, 4, 5}, "wwrr", atMost("0", "0", "0", "-1", "1"), atMost("0", "-1", "1", "0", "0"), below("1", "0", "0", "1", "0"), atMost("0", "-1", "1", "0", "0"))},
		// what is no OpLe and no OpLt plays no part
		{"(assert (= x y))(assert (<= y 0))(assert (not (= u v)))(assert (or (<= x 0) (< y 1)))(assert true)", rowSet([]int{3}, "w", atMost("0", "1"))},
		{"(assert (>= x 0))(assert (not (> u v)))", rowSet(nil, "")},
	} {
		b, facts := rowsCase(t, d+row.text)
		if got := checkRowsOf(t, b, facts); !sameRowSet(got, row.want) {
			t.Errorf("%s: %v, want %v", row.text, got, row.want)
		}
	}
}

// Terms that are no sums are columns of their own, whatever they are.
func TestStage14RowsOfTerms(t *testing.T) {
	d := "(declare-const x Int)(declare-const p Bool)(declare-fun f (Int) Real)(declare-const a (Array Int Int))"
	b, facts := rowsCase(t, d+"(assert (<= (+ (f x) (to_real (select a x)) (ite p 1.0 2.0)) (to_real (+ (div x 2) (mod x 2)))))")
	set := checkRowsOf(t, b, facts)
	var ops []int
	for _, col := range set.Cols {
		ops = append(ops, b.Terms[col].Op)
	}
	if !slices.Equal(ops, []int{impl.OpApp, impl.OpSelect, impl.OpIte, impl.OpDiv, impl.OpMod}) || !slices.Equal(set.Whole, flagsOf("rwrww")) {
		t.Errorf("%v: %v", ops, set)
	}
}

// The limits of rows, columns and digits, exactly met and passed.
func TestStage14RowsOfLimits(t *testing.T) {
	isOk := func(text string) bool {
		b, facts := rowsCase(t, text)
		return checkRowsOf(t, b, facts).Ok
	}
	for text, want := range map[string]bool{
		sizeText(50, 20): true, sizeText(51, 20): false, sizeText(50, 21): false, sizeText(21, 21): false, sizeText(1, 1): true,
		"(declare-const u Real)(assert (<= (* (/ 1.0 " + tenTo(20) + ".0) u) " + nines(20) + ".0))":                                                                                  true,
		"(declare-const u Real)(assert (<= (* (/ 1.0 " + tenTo(20) + ".0) u) " + tenTo(20) + ".0))":                                                                                  false,
		"(declare-const u Real)(assert (not (<= (* (/ 1.0 " + tenTo(20) + ".0) u) " + tenTo(20) + ".0)))":                                                                            false,
		"(declare-const u Real)(assert (<= (* (/ 1.0 " + tenTo(15) + ".0) u) (/ 1.0 " + tenTo(24) + "7.0)))":                                                                         true,
		"(declare-const u Real)(assert (<= (* " + nines(20) + ".0 u) (/ 1.0 " + tenTo(20) + ".0)))":                                                                                  true,
		"(declare-const u Real)(assert (<= (* " + tenTo(20) + ".0 u) (/ 1.0 " + tenTo(20) + ".0)))":                                                                                  false,
		"(declare-const x Int)(assert (<= (* " + nines(30) + " x) (- " + nines(30) + ")))":                                                                                           true,
		"(declare-const x Int)(assert (<= (* 10 (* " + tenTo(29) + " x)) 0))":                                                                                                        false,
		"(declare-const x Int)(assert (<= (to_real (* 10 (* " + tenTo(29) + " x))) 0.0))":                                                                                            false,
		"(declare-const x Int)(assert (<= (* 1000.0 (to_real (* " + tenTo(29) + " x))) 0.0))":                                                                                        true,
		declaredConsts("x", "Int", 25) + "(assert (<= (+ " + joinedNames("x", 0, 25) + ") (+ " + joinedNames("x", 5, 25) + ")))":                                                     true,
		declaredConsts("x", "Int", 52) + "(assert (<= (+ x0 (+ x1 " + joinedNames("x", 2, 30) + ") (+ x30 " + joinedNames("x", 31, 52) + ")) (+ x0 x1)))":                            false,
		declaredConsts("x", "Int", 52) + "(assert (<= (+ x0 x1) 0))(assert (not (<= 0 (+ x0 (+ x1 " + joinedNames("x", 2, 30) + ") (+ x30 x31 " + joinedNames("x", 32, 52) + ")))))": false,
	} {
		if isOk(text) != want {
			t.Errorf("%s: Ok is not %t", short(text), want)
		}
	}
	// more facts than MaxFacts, of which few have rows
	b, facts := rowsCase(t, sizeText(50, 20)+"(declare-const p Bool)(assert p)")
	many := slices.Concat(facts, slices.Repeat(facts[50:], 2*impl.MaxFacts))
	if !checkRowsOf(t, b, many).Ok {
		t.Error("facts without rows count")
	}
	if checkRowsOf(t, b, append(many, facts[0])).Ok {
		t.Error("51 rows, two of them the same")
	}
}

// Facts of what is no Bool term, or no term.
func TestStage14RowsOfWrong(t *testing.T) {
	b, facts := rowsCase(t, "(declare-const x Int)(declare-const p Bool)(assert (<= x 3))(assert p)")
	if !checkRowsOf(t, b, facts).Ok {
		t.Fatal("no rows")
	}
	x := slices.IndexFunc(b.Terms, func(x impl.Term) bool { return x.Sort == "Int" })
	for _, id := range []int{-1, x, len(b.Terms), 1<<63 - 1, -1 << 63} {
		for _, fact := range []impl.Fact{on(id), notOn(id)} {
			for place := range len(facts) + 1 {
				if wrong := slices.Insert(slices.Clone(facts), place, fact); checkRowsOf(t, b, wrong).Ok {
					t.Errorf("%v: rows", wrong)
				}
			}
		}
	}
	for _, bank := range []impl.Bank{{}, impl.NewBank()} {
		if !checkRowsOf(t, bank, nil).Ok || checkRowsOf(t, bank, []impl.Fact{on(2)}).Ok {
			t.Error("an empty bank")
		}
	}
}

// Drawn facts of drawn banks, and what they mean: a fact is so in a model just where its row is met by the values of its columns.
func TestStage14RowsOfDrawn(t *testing.T) {
	r := rand.New(rand.NewSource(149))
	rows, met, real := 0, [2]int{}, 0
	for n := range 300 {
		text := declaredConsts("x", "Int", 3) + declaredConsts("u", "Real", 2)
		for i := range 1 + r.Intn(8) {
			sort, names := "Int", []string{"x0", "x1", "x2", "(- x0 x1)"}
			if (i+n)%2 == 0 {
				sort, names = "Real", []string{"u0", "u1", "(to_real x0)", "(to_real (+ (* 3 x1) x2 1))", "(- u0 (to_real x2))"}
			}
			text += anyOf(r, 1, func() string {
				return "(" + []string{"<=", "<"}[r.Intn(2)] + " " + drawSumText(r, sort, names) + " " + drawSumText(r, sort, names) + ")"
			})
		}
		b, facts := rowsCase(t, text)
		set := checkRowsOf(t, b, facts)
		if !set.Ok {
			continue
		}
		for range 10 {
			var m impl.Model
			for _, f := range b.Funs {
				value := strconv.Itoa(r.Intn(15) - 7)
				if f.Sort == "Real" {
					value = impl.RatOf(value, strconv.Itoa(1+r.Intn(4)))
				}
				m.Interps = append(m.Interps, fixed(f.Name, value))
			}
			values := impl.Eval(b, m)
			var vals []string
			for _, col := range set.Cols {
				vals = append(vals, values[col])
			}
			for i, fact := range facts {
				isSo := (values[fact.Term] == "true") == fact.On
				if impl.Meets(len(set.Cols), set.Rows[i:i+1], vals) != isSo {
					t.Fatalf("%s: fact %d, %v by %v", text, i, set, vals)
				}
				met[oneOf(isSo)]++
			}
		}
		rows += len(set.Rows)
		real += oneOf(slices.Contains(set.Whole, false) && slices.Contains(set.Whole, true))
	}
	if rows < 500 || met[0] < 1000 || met[1] < 1000 || real < 50 {
		t.Errorf("%d rows, %v, %d of both sorts", rows, met, real)
	}
}
