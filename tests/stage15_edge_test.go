package tests

import (
	"fmt"
	"math"
	"slices"
	"testing"
	"unsafe"

	"loop.example/g00007/impl"
)

// A problemRow is a script and what Prepare makes of it: its terms behind true and false, and the lists, worked out by hand.
type problemRow struct {
	text   string
	terms  []string
	roots  []int
	shared []int
	asks   []int
}

// checkProblems looks at the terms by their texts.
func checkProblems(t *testing.T, declared string, rows []problemRow) {
	t.Helper()
	for _, row := range rows {
		c := readAsks(t, declared+row.text)
		p := c.checkPrepare(t)
		var terms []string
		for id := range p.Bank.Terms {
			terms = append(terms, impl.TermText(p.Bank, id))
		}
		if want := slices.Concat([]string{"true", "false"}, row.terms); !p.Ok || !slices.Equal(terms, want) || !slices.Equal(p.Roots, row.roots) || !slices.Equal(p.Shared, row.shared) || !slices.Equal(p.Asks, row.asks) {
			t.Errorf("%s:\n%q\nroots %v, shared %v, asks %v", row.text, terms, p.Roots, p.Shared, p.Asks)
		}
	}
}

// Roots and Shared each once, Asks as many as are asked.
func TestStage15Prepare(t *testing.T) {
	checkProblems(t, boolConsts, []problemRow{
		{"", nil, nil, nil, nil},
		{"(assert p)", []string{"p"}, nil, nil, []int{2}},
		{"(assert p)(assert q)(assert p)(assert p)", []string{"p", "q"}, nil, nil, []int{2, 3, 2, 2}},
		{"(assert (or p (not p)))(assert (and q true))(assert false)(assert (not (not q)))", []string{"q"}, nil, nil, []int{0, 2, 1, 2}},
		// one of the images of asks is the other one's kid
		{"(assert (=> p q))(assert (not p))", []string{"p", "q", "(not p)", "(or q (not p))"}, nil, nil, []int{5, 4}},
	})
	// a choice is told by a fresh constant and two roots
	checkProblems(t, "(declare-const p Bool)(declare-const s (_ BitVec 2))", []problemRow{
		{"(assert (= (ite p s #b01) #b10))", []string{"p", "s", "#b01", ".0", "(not p)", "(= s .0)", "(or (not p) (= s .0))", "(= #b01 .0)", "(or p (= #b01 .0))", "#b10", "(= .0 #b10)"}, []int{8, 10}, nil, []int{12}},
	})
	// two calls share an equation of their arguments, and of what they give
	checkProblems(t, "(declare-sort U 0)(declare-const s (_ BitVec 2))(declare-fun f ((_ BitVec 2)) U)(declare-fun P ((_ BitVec 2)) Bool)", []problemRow{
		{"(assert (P s))(assert (P #b01))", []string{"s", "(P s)", "#b01", "(P #b01)", "(= s #b01)"}, nil, []int{6}, []int{3, 5}},
		{"(assert (P s))(assert (P #b01))(assert (= (f s) (f #b01)))", []string{"s", "(P s)", "#b01", "(P #b01)", "(f s)", "(f #b01)", "(= (f s) (f #b01))", "(= s #b01)"}, nil, []int{9}, []int{3, 5, 8}},
		// two known words are not equal: false is shared
		{"(assert (P #b00))(assert (P #b01))", []string{"#b00", "(P #b00)", "#b01", "(P #b01)"}, nil, []int{1}, []int{3, 5}},
	})
}

// Images that become one: the roots of (mod x 3) twice, and shared equations that are false.
func TestStage15PrepareOnce(t *testing.T) {
	met := 0
	for _, text := range []string{
		"(declare-sort U 0)(declare-fun P ((_ BitVec 2)) Bool)(assert (P #b00))(assert (P #b01))(assert (P #b10))(assert (P #b11))",
		"(declare-const x Int)(declare-fun P (Int) Bool)(assert (P x))(assert (P (+ x 1)))(assert (P (+ x 2)))(assert (P (+ x 3)))",
		"(declare-const x Int)(declare-const y Int)(declare-const p Bool)(assert (= (ite p x y) x))(assert (= (ite p x y) y))(assert (= (ite p y x) x))",
	} {
		c := readAsks(t, text)
		p := c.checkPrepare(t)
		first := impl.Simplify(c.b)
		var asks []int
		for _, ask := range c.asks {
			asks = append(asks, first.To[ask])
		}
		low := impl.Lower(first.Bank, asks)
		if met += len(low.Roots) - len(p.Roots) + len(low.Shared) - len(p.Shared); len(p.Asks) != len(c.asks) {
			t.Errorf("%s: %d asks, want %d", text, len(p.Asks), len(c.asks))
		}
	}
	if met < 5 {
		t.Errorf("%d were there more than once", met)
	}
}

// What is unknown, and why.
func TestStage15Unknown(t *testing.T) {
	calls := declaredConsts("x", "Int", 60) + "(declare-fun f (Int) Int)"
	for i := range 60 {
		calls += fmt.Sprintf("(assert (= (f x%d) 0))", i)
	}
	products := "(declare-const s (_ BitVec 64))(declare-const t (_ BitVec 64))(declare-const p Bool)(assert (= (bvmul s t) (bvudiv (bvmul t (bvadd s t)) (bvmul s (bvsub s t)))))"
	for _, row := range []struct {
		text  string
		steps int
		want  impl.Verdict
	}{
		// one of the three that Prepare asks is not Ok: too many terms
		{calls, 20000, unknown(impl.WhySize)}, {calls + "(declare-const p Bool)(assert p)(assert (not p))", 20000, unknown(impl.WhySize)},
		// SearchBad: too many clauses
		{products, 20000, unknown(impl.WhySize)}, {products + "(assert p)(assert (not p))", 20000, unknown(impl.WhySize)},
		// SearchSize: too many rows, and facts
		{sizeText(60, 30), 20000, unknown(impl.WhySize)},
		{stripText(60), 20000, unknown(impl.WhyNodes)}, {pigeons(5), 100, unknown(impl.WhySteps)}, {boolConsts + "(assert p)", 1, unknown(impl.WhySteps)}, {pigeons(5), 1, unknown(impl.WhySteps)},
	} {
		c := readAsks(t, row.text)
		if v := c.check(t, row.steps); !sameVerdict(v, row.want) {
			t.Errorf("%s..: status %d, why %d, want why %d", row.text[:min(len(row.text), 120)], v.Status, v.Why, row.want.Why)
		}
	}
	for n, want := range map[int]int{impl.MaxFacts: impl.VerSat, impl.MaxFacts + 1: impl.VerUnknown} {
		b, facts := predicateBank(n)
		if v := (verdictCase{b, facts}).check(t, 20000); v.Status != want || want == impl.VerUnknown && v.Why != impl.WhySize {
			t.Errorf("%d facts: status %d, why %d", n, v.Status, v.Why)
		}
	}
	// where Prepare or Clauses is not Ok, no proof is taken
	for _, text := range []string{calls, products} {
		c := readAsks(t, text+"(declare-const q Bool)(assert q)(assert (not q))")
		n := len(c.asks)
		c.checkProofRows(t, false, proofOf([]int{n - 2, n - 1}), proofOf(upTo(n)), proofOf([]int{n - 2, n - 1}, chain(nil, 0)), proofOf(nil, chain([]int{1}, 0)))
		c.asks = c.asks[n-2:]
		c.checkProofRows(t, true, proofOf([]int{0, 1}))
	}
}

// Steps: those that are needed and more give the verdict, fewer are WhySteps, others are no steps.
func TestStage15Steps(t *testing.T) {
	for _, text := range []string{
		"", boolConsts + "(assert p)(assert (or q r))", boolConsts + "(assert p)(assert (not p))", pigeons(2), pigeons(3), "(declare-const x Int)(assert (< 0 x))(assert (< x 3))(assert (= (* 2 x) 3))",
		"(declare-const x Int)(declare-const y Int)(assert (<= x y))(assert (<= y x))(assert (distinct x y))", "(declare-sort U 0)(declare-const a U)(declare-fun f (U) U)(assert (= (f (f (f a))) a))(assert (= (f (f (f (f (f a))))) a))(assert (not (= (f a) a)))",
	} {
		c := readAsks(t, text)
		p := c.problem()
		need := impl.Search(p.Bank, p.Roots, p.Asks, p.Shared, impl.MaxSteps).Steps
		want := c.check(t, impl.MaxSteps)
		if want.Status != impl.VerSat && want.Status != impl.VerUnsat {
			t.Fatalf("%s: %v", text, want)
		}
		for _, steps := range []int{1, 2, need - 1, need, need + 1, 20000, impl.MaxSteps - 1, impl.MaxSteps} {
			switch {
			case steps < 1:
				c.checkSolve(t, steps, impl.Verdict{})
			case steps < need:
				c.checkSolve(t, steps, unknown(impl.WhySteps))
			default:
				c.checkSolve(t, steps, want)
			}
		}
		for _, steps := range []int{0, -1, -20000, impl.MaxSteps + 1, math.MaxInt, math.MinInt} {
			c.checkSolve(t, steps, impl.Verdict{})
		}
	}
}

// No asks, and the same one twice.
func TestStage15Asks(t *testing.T) {
	for _, b := range []impl.Bank{{}, impl.NewBank(), bankMix(t), {Terms: []impl.Term{term(impl.OpFalse, "Bool")}}} {
		c := verdictCase{b: b}
		if v := c.check(t, 1); v.Status != impl.VerSat || len(v.Model.Interps) != len(b.Funs) {
			t.Errorf("%s: %v", shortBank(b), v)
		}
	}
	c := readAsks(t, boolConsts+"(assert p)(assert p)(assert q)(assert (not p))(assert q)(assert (not p))")
	c.checkSolve(t, 1, impl.Verdict{Status: impl.VerUnsat, Core: []int{0, 3}})
	c = readAsks(t, boolConsts+"(assert r)(assert (and p q))(assert r)(assert (and p q))(assert (not q))(assert (not q))")
	if v := c.check(t, 100); !slices.Equal(v.Core, []int{1, 4}) {
		t.Errorf("%v", v)
	}
	c = readAsks(t, boolConsts+"(assert false)(assert false)")
	c.checkSolve(t, 100, impl.Verdict{Status: impl.VerUnsat, Core: []int{0}, Proof: []impl.Lemma{chain([]int{1}, 0)}})
}

// checkWrong is for what is no right argument of any of the three.
func (c verdictCase) checkWrong(t *testing.T) {
	t.Helper()
	for _, steps := range []int{1, 20000, impl.MaxSteps} {
		c.checkSolve(t, steps, impl.Verdict{})
	}
	if p := c.checkPrepare(t); !sameProblem(p, impl.Problem{}) {
		t.Errorf("%s: %v", shortBank(c.b), p)
	}
	c.checkProofRows(t, false, proofOf(nil), proofOf([]int{0, 1}), proofOf(upTo(len(c.asks))), proofOf([]int{0}, chain([]int{1}, 0)), proofOf(nil, chain(nil, 0)))
}

// Wrong inputs: banks that are not good, asks that are no Bool terms, names that the solver itself gives.
func TestStage15Wrong(t *testing.T) {
	for _, b := range noBanks(t) {
		for _, asks := range [][]int{nil, {0}, {0, 1}} {
			verdictCase{b, asks}.checkWrong(t)
		}
	}
	good := readAsks(t, "(declare-const p Bool)(declare-const x Int)(assert p)(assert (not p))(assert (< x 0))")
	x := slices.IndexFunc(good.b.Terms, func(x impl.Term) bool { return x.Sort == "Int" })
	for _, id := range []int{-1, len(good.b.Terms), x, math.MaxInt, math.MinInt} {
		for place := range len(good.asks) + 1 {
			verdictCase{good.b, slices.Insert(slices.Clone(good.asks), place, id)}.checkWrong(t)
		}
		verdictCase{good.b, []int{id}}.checkWrong(t)
	}
	for _, change := range []func(b *impl.Bank){
		func(b *impl.Bank) { b.Sorts = append(b.Sorts, ".") }, func(b *impl.Bank) { b.Sorts = append(b.Sorts, ".U") }, func(b *impl.Bank) { b.Sorts = append(b.Sorts, "U", ".5") }, func(b *impl.Bank) { b.Funs = append(b.Funs, impl.Fun{Name: ".0", Sort: "Int"}) },
		func(b *impl.Bank) { b.Funs = append(b.Funs, impl.Fun{Name: ".", Sort: "Bool"}) }, func(b *impl.Bank) { b.Funs = append(b.Funs, impl.Fun{Name: ".f", Args: []string{"Int"}, Sort: "Int"}) },
	} {
		b := copied(good.b)
		change(&b)
		if !impl.GoodBank(b) {
			t.Fatalf("%s is no good bank", shortBank(b))
		}
		for _, asks := range [][]int{nil, good.asks, {0}, {0, 1}} {
			verdictCase{b, asks}.checkWrong(t)
		}
	}
	// a name with a dot elsewhere is as good as others
	b := copied(good.b)
	b.Sorts, b.Funs = append(b.Sorts, "U.", "a.b"), append(b.Funs, impl.Fun{Name: "f.", Sort: "Int"})
	if v := (verdictCase{b, good.asks}).check(t, 100); v.Status != impl.VerUnsat {
		t.Errorf("%v", v)
	}
}

// areApart looks whether lists share memory, what is behind their ends too.
func areApart[T any](lists ...[]T) bool {
	type span struct{ from, to uintptr }
	var spans []span
	for _, list := range lists {
		if cap(list) > 0 {
			from := uintptr(unsafe.Pointer(unsafe.SliceData(list)))
			spans = append(spans, span{from, from + uintptr(cap(list))*unsafe.Sizeof(list[:1][0])})
		}
	}
	slices.SortFunc(spans, func(a, b span) int { return oneOf(a.from > b.from) - oneOf(a.from < b.from) })
	for i := range len(spans) - 1 {
		if spans[i].to > spans[i+1].from {
			return false
		}
	}
	return true
}

// numberLists and textLists are those of a proof.
func numberLists(proof []impl.Lemma) (lists [][]int) {
	for _, lemma := range proof {
		lists = append(lists, lemma.Lits, lemma.Chain)
	}
	return lists
}

func textLists(proof []impl.Lemma) (lists [][]string) {
	for _, lemma := range proof {
		for _, node := range lemma.Tree {
			lists = append(lists, node.Mult)
		}
	}
	return lists
}

func treesOf(proof []impl.Lemma) (lists [][]impl.TreeNode) {
	for _, lemma := range proof {
		lists = append(lists, lemma.Tree)
	}
	return lists
}

// No two lists of an answer share memory, nor one of them with an argument.
func TestStage15OwnMemory(t *testing.T) {
	for _, text := range []string{
		pigeons(3), boolConsts + "(assert p)(assert q)", boolConsts + "(assert p)(assert (not p))", stripText(3), tableText(20, 5) + "(assert (distinct c0 c1 c2))",
		"(declare-sort U 0)(declare-const a U)(declare-fun f (U) U)(assert (= (f (f (f a))) a))(assert (= (f (f (f (f (f a))))) a))(assert (not (= (f a) a)))",
		"(declare-fun f (Int Int) Int)(declare-const p Bool)(assert (= (f 1 2) 3))(assert (= (f 2 1) 4))(assert (= (ite p 1 2) (f 0 0)))",
	} {
		c := readAsks(t, text)
		v := impl.Solve(c.b, c.asks, 20000)
		ints := append(numberLists(v.Proof), v.Core, c.asks)
		var args [][]string
		var rows [][]impl.Row
		for _, in := range v.Model.Interps {
			rows = append(rows, in.Rows)
			for _, row := range in.Rows {
				args = append(args, row.Args)
			}
		}
		p := impl.Prepare(c.b, c.asks)
		ints = append(ints, p.Roots, p.Shared, p.Asks)
		names := append(textLists(v.Proof), p.Bank.Sorts, c.b.Sorts)
		for _, b := range []impl.Bank{p.Bank, c.b} {
			for _, x := range b.Terms {
				ints = append(ints, x.Kids)
			}
			for _, f := range b.Funs {
				names = append(names, f.Args)
			}
		}
		_, read := impl.ReadProof(impl.ProofText(v.Proof))
		ints = append(ints, numberLists(read)...)
		if !areApart(ints...) || !areApart(slices.Concat(args, names, textLists(read))...) || !areApart(rows...) || !areApart(append(treesOf(read), treesOf(v.Proof)...)...) || !areApart(p.Bank.Terms, c.b.Terms) || !areApart(p.Bank.Funs, c.b.Funs) {
			t.Errorf("%s: lists share memory", text)
		}
	}
}

// Verdicts in scripts that people write: what is known to be sat or unsat.
func TestStage15Verdicts(t *testing.T) {
	for _, row := range []struct {
		text string
		want int
	}{
		{"(declare-const x Int)(assert (= (* 2 x) 7))", impl.VerUnsat}, {"(declare-const u Real)(assert (= (* 2.0 u) 7.0))", impl.VerSat}, {"(declare-const x Int)(declare-const y Int)(assert (= (+ (* 4 x) (* 6 y)) 9))(assert (< 0 x))(assert (< x 5))(assert (< (- 5) y))", impl.VerUnsat},
		{"(declare-const x Int)(assert (distinct (mod x 2) 0 1))", impl.VerUnsat}, {"(declare-const x Int)(assert (= (div x (- 3)) 2))(assert (< x (- 6)))", impl.VerUnsat}, {"(declare-const x Int)(assert (= (div x (- 3)) 2))(assert (< x (- 5)))", impl.VerSat},
		{"(declare-const u Real)(declare-const x Int)(assert (< (to_real x) u))(assert (< u (to_real (+ x 1))))(assert (= (* 2.0 u) (to_real (+ x x 1))))", impl.VerSat}, {"(declare-const u Real)(declare-const x Int)(assert (< (to_real x) u))(assert (< u (to_real (+ x 1))))(assert (= u (to_real 4)))", impl.VerUnsat},
		{"(declare-sort U 0)(declare-const m (Array U U))(declare-const i U)(declare-const j U)(assert (not (= (select (store m i j) i) j)))", impl.VerUnsat}, {"(declare-sort U 0)(declare-const m (Array U U))(declare-const i U)(declare-const j U)(assert (not (= (select (store m i j) j) j)))", impl.VerSat},
		{"(declare-sort U 0)(declare-const m (Array U U))(declare-const n (Array U U))(declare-const i U)(assert (= (store m i (select n i)) (store n i (select m i))))(assert (distinct m n))(assert (= (select m i) (select n i)))", impl.VerUnsat},
		{"(declare-const m (Array (_ BitVec 1) (_ BitVec 1)))(declare-const n (Array (_ BitVec 1) (_ BitVec 1)))(assert (= (select m #b0) (select n #b0)))(assert (= (select m #b1) (select n #b1)))(assert (distinct m n))", impl.VerUnsat},
		{"(declare-fun f (Int) Int)(declare-const x Int)(declare-const y Int)(assert (<= x y))(assert (<= y x))(assert (< (f x) (f y)))", impl.VerUnsat}, {"(declare-fun f (Int) Int)(declare-const x Int)(declare-const y Int)(assert (<= x y))(assert (< (f x) (f y)))", impl.VerSat},
		{"(declare-fun f ((_ BitVec 2)) (_ BitVec 2))(declare-const s (_ BitVec 2))(assert (= (f (bvadd s s)) s))(assert (= (f (bvshl s #b01)) (bvnot s)))", impl.VerUnsat}, {pigeons(4), impl.VerUnsat},
		{"(declare-sort U 0)(declare-fun f (U) U)(declare-const a U)(declare-fun g (U) Int)(assert (= (f a) a))(assert (< (g (f (f a))) (g a)))", impl.VerUnsat}, {"(declare-const p Bool)(declare-const x Int)(assert (= p (< x 3)))(assert (= (ite p 5 x) 2))", impl.VerUnsat},
	} {
		c := readAsks(t, row.text)
		if v := c.check(t, 20000); v.Status != row.want {
			t.Errorf("%s: status %d, why %d", row.text, v.Status, v.Why)
		}
	}
}

// Long proofs are checked in a time that can be waited for, though no text is long enough for them.
func TestStage15LongProofs(t *testing.T) {
	for _, text := range []string{pigeons(6), "(declare-const s (_ BitVec 5))(declare-const t (_ BitVec 5))(assert (not (= (bvmul s t) (bvmul t s))))"} {
		c := readAsks(t, text)
		v := impl.Solve(c.b, c.asks, impl.MaxSteps)
		if v.Status != impl.VerUnsat || !impl.CheckProof(c.b, c.asks, v.Core, v.Proof) || len(v.Proof) < 300 || impl.ProofText(v.Proof) != "" {
			t.Fatalf("%s..: status %d, %d lemmas", text[:60], v.Status, len(v.Proof))
		}
		last := len(v.Proof) - 1
		v.Proof[last].Chain = v.Proof[last].Chain[1:]
		if impl.CheckProof(c.b, c.asks, v.Core, v.Proof) {
			t.Errorf("%s..: a proof is taken whose end is wrong", text[:60])
		}
	}
}
