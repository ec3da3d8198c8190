package tests

import (
	"math"
	"slices"
	"strconv"
	"testing"

	"loop.example/g00007/impl"
)

// A proofRow is a core and a proof.
type proofRow struct {
	core  []int
	proof []impl.Lemma
}

func proofOf(core []int, lemmas ...impl.Lemma) proofRow {
	return proofRow{core, lemmas}
}

// checkProofRows says of each row that it is taken, or that it is not.
func (c verdictCase) checkProofRows(t *testing.T, want bool, rows ...proofRow) {
	t.Helper()
	for _, row := range rows {
		if c.checkTakes(t, row.core, row.proof) != want {
			t.Errorf("core %v, %v: want %v", row.core, row.proof, want)
		}
	}
}

// mustHave looks whether the literals of the asks, and the clauses, are those that a test was worked out with.
func (c verdictCase) mustHave(t *testing.T, lits []int, clauses ...[]int) {
	t.Helper()
	p := c.problem()
	cnf := cnfOf(p)
	var got []int
	for _, ask := range p.Asks {
		got = append(got, cnf.Lits[ask])
	}
	if !slices.Equal(got, lits) || !slices.EqualFunc(cnf.Clauses, clauses, slices.Equal[[]int]) {
		t.Fatalf("literals %v, clauses %v", got, cnf.Clauses)
	}
}

// pThenQ asks for p, (=> p q), (not q), and for r, which is variable 5.
func pThenQ(t *testing.T) verdictCase {
	t.Helper()
	c := readAsks(t, boolConsts+"(assert p)(assert (=> p q))(assert (not q))(assert r)")
	c.mustHave(t, []int{2, -4, -3, 5}, []int{1}, []int{-4, 2}, []int{-4, -3}, []int{4, -2, 3})
	return c
}

func three() []int { return []int{0, 1, 2} }

// The last lemma may have fewer Lits than the core has asks.
func TestStage15LastLemma(t *testing.T) {
	c := pThenQ(t)
	last := chain([]int{-2, 3, 4}, 3)
	c.checkProofRows(t, true, proofOf(three(), last), proofOf(upTo(4), last), proofOf(three(), last, last), proofOf(three(), chain([]int{1}, 0), last), proofOf(three(), last, chain([]int{-2, 3, 4}, 4)))
	// a literal of no ask, of an ask that is not in the core, of an ask itself
	c.checkProofRows(t, false, proofOf([]int{0, 1}, last), proofOf([]int{0, 2}, last), proofOf([]int{1, 2}, last), proofOf([]int{1, 2, 3}, last), proofOf(nil, last),
		proofOf(three(), last, chain([]int{1}, 0)), proofOf(three(), chain([]int{1}, 0)), proofOf(three(), chain([]int{2, -4}, 1)), proofOf(three(), chain([]int{-3, -4}, 2)), proofOf(upTo(4), chain([]int{2, -4}, 1)))
	// what is asked is false, so its opposite is the first clause
	c = readAsks(t, boolConsts+"(assert (and p (not p)))(assert r)")
	c.mustHave(t, []int{-1, 2}, []int{1})
	c.checkProofRows(t, true, proofOf([]int{0}, chain([]int{1}, 0)), proofOf([]int{0, 1}, chain([]int{1}, 0)))
	c.checkProofRows(t, false, proofOf([]int{1}, chain([]int{1}, 0)), proofOf(nil, chain([]int{1}, 0)), proofOf([]int{0}, chain(nil, 0)), proofOf(nil, chain(nil)))
}

// Cores: indexes of asks, strictly ascending.
func TestStage15Cores(t *testing.T) {
	c := pThenQ(t)
	last := chain([]int{-2, 3, 4}, 3)
	for _, core := range [][]int{{1, 0, 2}, {0, 2, 1}, {2, 1, 0}, {0, 0, 1, 2}, {0, 1, 1, 2}, {0, 1, 2, 2}, {-1, 0, 1, 2}, {0, 1, 2, 4}, {0, 1, 2, math.MaxInt}, {math.MinInt, 0, 1, 2}, {0, 1, 2, -1}, {0, 1, 2, 3, 3}, {0, 1, 2, 3, 0}} {
		c.checkProofRows(t, false, proofOf(core, last), proofOf(core))
	}
	c.checkProofRows(t, true, proofOf([]int{0, 1, 2}, last), proofOf([]int{0, 1, 2, 3}, last))
	// the same ask twice: each of the two stands for both
	c.asks = append(c.asks, c.asks...)
	c.checkProofRows(t, true, proofOf([]int{4, 5, 6}, last), proofOf([]int{0, 5, 6}, last), proofOf([]int{2, 4, 5}, last), proofOf(upTo(8), last))
	c.checkProofRows(t, false, proofOf([]int{0, 1, 4, 5}, last), proofOf([]int{0, 1, 8}, last))
}

// An empty proof: two asks of the core are opposite.
func TestStage15EmptyProof(t *testing.T) {
	c := readAsks(t, boolConsts+"(assert p)(assert q)(assert (not p))(assert p)(assert (not q))")
	c.mustHave(t, []int{2, 3, -2, 2, -3}, []int{1})
	c.checkProofRows(t, true, proofOf([]int{0, 2}), proofOf([]int{2, 3}), proofOf([]int{1, 4}), proofOf(upTo(5)), proofOf([]int{1, 2, 3}), proofOf([]int{0, 1, 4}))
	c.checkProofRows(t, false, proofOf(nil), proofOf([]int{0}), proofOf([]int{2}), proofOf([]int{0, 1}), proofOf([]int{0, 3}), proofOf([]int{1, 2}), proofOf([]int{2, 4}), proofOf([]int{0, 1, 3}), proofOf([]int{2, 0}), proofOf([]int{0, 2, 2}), proofOf([]int{0, 2, 5}))
	// true and false are opposite, too
	c = verdictCase{impl.NewBank(), []int{0, 1, 1}}
	c.mustHave(t, []int{1, -1, -1}, []int{1})
	c.checkProofRows(t, true, proofOf([]int{0, 1}), proofOf([]int{0, 2}), proofOf([]int{1}, chain([]int{1}, 0)))
	c.checkProofRows(t, false, proofOf([]int{1, 2}), proofOf([]int{0}), proofOf([]int{1}), proofOf(nil))
	// no asks at all
	c = verdictCase{b: impl.NewBank()}
	c.checkProofRows(t, false, proofOf(nil), proofOf([]int{0}), proofOf(nil, chain(nil)), proofOf(nil, chain(nil, 0)), proofOf(nil, chain([]int{1}, 0)))
}

// Lits: by their variables, ascending, none twice, variables of the Cnf. What a lemma is not asked for later must be right, too.
func TestStage15Lits(t *testing.T) {
	c := pThenQ(t)
	last := chain([]int{-2, 3, 4}, 3)
	lists := [][]int{{3, -2, 4}, {4, 3, -2}, {-2, 4, 3}, {-2, 3, 3, 4}, {-2, -2, 3, 4}, {-2, 2, 3, 4}, {2, -2, 3, 4}, {0, -2, 3, 4}, {-2, 0, 3, 4}, {-2, 3, 4, 0}, {-2, 3, 4, 6}, {-2, 3, 4, -6}, {-2, 3, 4, 5}, {-2, 3}, {3, 4}, {2, 3, 4}, {-2, -3, 4}, {-2, 3, -4}, nil,
		{math.MinInt, -2, 3, 4}, {-2, 3, 4, math.MinInt}, {-2, 3, 4, math.MaxInt}, {-2, 3, 4, -math.MaxInt}, {1, -2, 3, 4}, {-1, -2, 3, 4}}
	for _, lits := range lists {
		for _, kind := range []int{impl.LemEqual, impl.LemLinear, impl.LemChain} {
			lemma := impl.Lemma{Kind: kind, Lits: lits}
			if kind == impl.LemChain {
				lemma.Chain = []int{3}
			}
			c.checkProofRows(t, false, proofOf(upTo(4), lemma), proofOf(upTo(4), lemma, last), proofOf(upTo(4), lemma, chain([]int{-2, 3, 4}, 3)), proofOf(upTo(4), last, lemma))
		}
	}
	// of own sorts, with facts that do clash: an order, a twin or a stranger among the Lits makes it wrong all the same
	c = equalCase(t)
	c.checkProofRows(t, true, proofOf(upTo(3), equal(-2, 3)), proofOf(upTo(3), equal(-2, 3, -4)), proofOf(upTo(3), equal(-2, 3, 4), equal(-2, 3)), proofOf(upTo(3), equal(-1, -2, 3), equal(-2, 3)))
	for _, lits := range [][]int{{3, -2}, {-2, -2, 3}, {-2, 3, 3}, {-2, 2, 3}, {0, -2, 3}, {-2, 3, 5}, {-2, 3, 0}, {-2, 3, math.MinInt}, {math.MinInt, -2, 3}, {-2, 3, -5}} {
		c.checkProofRows(t, false, proofOf(upTo(3), equal(lits...)), proofOf(upTo(3), equal(lits...), equal(-2, 3)))
	}
}

// A Chain names clauses and lemmas ahead of it; it has at least one number.
func TestStage15ChainNumbers(t *testing.T) {
	c := pThenQ(t)
	last := []int{-2, 3, 4}
	one := chain([]int{1}, 0)
	c.checkProofRows(t, true, proofOf(three(), one, one, chain(last, 3), chain(last, 6)), proofOf(three(), chain(last, 3), one, chain(last, 4)))
	c.checkProofRows(t, false,
		proofOf(three(), chain(last)), proofOf(three(), chain(nil)), proofOf(three(), chain(nil), chain(last, 3)),
		proofOf(three(), chain(last, 4)), proofOf(three(), chain(last, 5), chain(last, 3)), proofOf(three(), chain(last, 4), chain(last, 3)), proofOf(three(), one, chain(last, 5)), proofOf(three(), one, chain(last, 6)),
		proofOf(three(), chain(last, -1)), proofOf(three(), chain(last, 3, -1)), proofOf(three(), chain(last, math.MinInt)), proofOf(three(), chain(last, math.MaxInt)), proofOf(three(), chain(last, 3, 4)), proofOf(three(), chain(last, 3, 99)))
}

// xorCase asks for (xor p q), p and q. The gate is 4; 5 and 6 are numbers of lemmas that these tests begin with.
func xorCase(t *testing.T) verdictCase {
	t.Helper()
	c := readAsks(t, boolConsts+"(assert (xor p q))(assert p)(assert q)")
	c.mustHave(t, []int{4, 2, 3}, []int{1}, []int{-4, 2, 3}, []int{-4, -2, -3}, []int{4, -2, 3}, []int{4, 2, -3})
	return c
}

// Each further clause has just one literal whose opposite is there.
func TestStage15Resolutions(t *testing.T) {
	c := xorCase(t)
	last := chain([]int{-2, -3, -4}, 2)
	c.checkProofRows(t, true, proofOf(three(), last))
	for _, row := range []struct {
		lits  []int
		chain []int
		want  bool
	}{
		// [-4 2 3] and [-4 -2 -3]: two of them; [4 -2 3]: two; [4 2 -3]: two
		{[]int{-4}, []int{1, 2}, false}, {[]int{3, -4}, []int{1, 2}, false}, {[]int{-2, 2, -4}, []int{1, 2}, false}, {[]int{2, 3}, []int{1, 3}, false}, {[]int{3}, []int{1, 3}, false}, {nil, []int{1, 4}, false},
		// [1] with any of them: none
		{[]int{1, 2, 3, -4}, []int{1, 0}, false}, {[]int{2, 3, -4}, []int{1, 0}, false}, {[]int{1, 2, 3, -4}, []int{0, 1}, false}, {[]int{1}, []int{0, 0}, false}, {[]int{2, 3, -4}, []int{1, 1}, false},
		// [-4 2 3] alone
		{[]int{2, 3, -4}, []int{1}, true}, {[]int{2, -4}, []int{1}, false}, {[]int{2, 3}, []int{1}, false}, {[]int{2, 3, 4}, []int{1}, false}, {[]int{2, 3, -4, 5}, []int{1}, false}, {nil, []int{1}, false},
	} {
		c.checkProofRows(t, row.want, proofOf(three(), chain(row.lits, row.chain...), last))
	}
	// one after the other, down to a few literals and up again
	u := readAsks(t, boolConsts+"(assert (and p q r))(assert (not q))")
	u.mustHave(t, []int{6, -3}, []int{1}, []int{-5, 2}, []int{-5, 3}, []int{5, -2, -3}, []int{-6, 4}, []int{-6, 5}, []int{6, -4, -5})
	core, end := []int{0, 1}, chain([]int{3, -6}, 5, 2)
	u.checkProofRows(t, true, proofOf(core, end), proofOf(core, chain([]int{3, -6}, 2, 5)), proofOf(core, chain([]int{2, -6}, 5, 1), end),
		// [5 -2 -3] and [6 -4 -5]: [-2 -3 -4 6]; that and [-5 3]: [-2 -4 -5 6], in which 5 has come again
		proofOf(core, chain([]int{-2, -3, -4, 6}, 3, 6), chain([]int{-2, -4, -5, 6}, 7, 2), end), proofOf(core, chain([]int{-2, -4, -5, 6}, 3, 6, 2), end))
	u.checkProofRows(t, false, proofOf([]int{0}, end), proofOf([]int{1}, end), proofOf(core, chain([]int{3, -6}, 5, 1)), proofOf(core, chain([]int{3, -6}, 5, 2, 2)), proofOf(core, chain([]int{3}, 5, 2)), proofOf(core, chain([]int{3, -5, -6}, 5, 2)), proofOf(core, chain([]int{3, 5, -6}, 5, 2)),
		// two literals: [6 -4 -5] and [-6 5], [-2 -3 -4 6] and [-6 4]
		proofOf(core, chain([]int{-4}, 6, 5), end), proofOf(core, chain([]int{-4, -5, 5}, 6, 5), end), proofOf(core, chain([]int{-2, -3}, 3, 6, 4), end), proofOf(core, chain([]int{-2, -4, -5, 5, 6}, 3, 6, 2), end), proofOf(core, chain([]int{-2, -4, 6}, 3, 6, 2), end))
}

// equalCase: (= x y) is 2, (= (f x) (f y)) is 3, (P x) is 4; they are asked for, the second one's opposite.
func equalCase(t *testing.T) verdictCase {
	t.Helper()
	c := readAsks(t, "(declare-sort U 0)(declare-const x U)(declare-const y U)(declare-fun f (U) U)(declare-fun P (U) Bool)(assert (= x y))(assert (not (= (f x) (f y))))(assert (P x))")
	c.mustHave(t, []int{2, -3, 4}, []int{1})
	return c
}

// LemEqual: no Chain, no Tree, and facts that clash, not more than MaxFacts of them.
func TestStage15EqualLemmas(t *testing.T) {
	c := equalCase(t)
	c.checkProofRows(t, true, proofOf([]int{0, 1}, equal(-2, 3)), proofOf(upTo(3), equal(-2, 3, -4)), proofOf([]int{0, 1}, equal(-2, 3, 4), equal(-2, 3)), proofOf([]int{0, 1}, equal(-2, 3), chain([]int{-2, 3}, 1)))
	c.checkProofRows(t, false, proofOf([]int{0, 1}, equal()), proofOf([]int{0, 1}, equal(-2)), proofOf([]int{0, 1}, equal(3)), proofOf([]int{0, 1}, equal(2, 3), equal(-2, 3)), proofOf([]int{0, 1}, equal(-2, -3), equal(-2, 3)), proofOf([]int{0, 1}, equal(-2, 3, -4)), proofOf([]int{0, 1}, equal(-2, 3), equal(-2, 3, 4)))
	for _, lemma := range []impl.Lemma{
		{Kind: impl.LemEqual, Lits: []int{-2, 3}, Chain: []int{0}}, {Kind: impl.LemEqual, Lits: []int{-2, 3}, Tree: []impl.TreeNode{leafWith()}}, {Kind: impl.LemEqual, Lits: []int{-2, 3}, Chain: []int{0}, Tree: []impl.TreeNode{leafWith("1")}},
		{Kind: impl.LemLinear, Lits: []int{-2, 3}}, {Kind: impl.LemChain, Lits: []int{-2, 3}}, {Kind: 0, Lits: []int{-2, 3}}, {Kind: 4, Lits: []int{-2, 3}}, {Kind: -1, Lits: []int{-2, 3}}, {Kind: math.MaxInt, Lits: []int{-2, 3}}, {Kind: math.MinInt, Lits: []int{-2, 3}},
	} {
		c.checkProofRows(t, false, proofOf([]int{0, 1}, lemma), proofOf([]int{0, 1}, lemma, equal(-2, 3)), proofOf([]int{0, 1}, equal(-2, 3), lemma))
	}
	// P of more constants than there may be facts, and of two that are said to be equal
	for _, n := range []int{impl.MaxFacts - 1, impl.MaxFacts} {
		b, calls := predicateBank(n)
		h := heapOn(b)
		c := verdictCase{asks: append(calls, h.op(impl.OpEq, "Bool", 2, 3))}
		last := len(c.asks) - 1
		c.asks[1] = h.op(impl.OpNot, "Bool", calls[1])
		c.b = h.bank
		lits := []int{-2, 3}
		for v := 4; v < n+3; v++ {
			lits = append(lits, -v)
		}
		c.checkProofRows(t, n < impl.MaxFacts, proofOf(upTo(last+1), equal(lits...)))
		c.checkProofRows(t, true, proofOf([]int{0, 1, last}, equal(-2, 3, -n-2)))
	}
}

// linearCase: (<= x 0) is 2, (<= x 1) is 3; asked for are the first and the opposite of the second, and p, which is 4.
func linearCase(t *testing.T) verdictCase {
	t.Helper()
	c := readAsks(t, "(declare-const x Int)(declare-const p Bool)(assert (<= x 0))(assert (<= 2 x))(assert p)")
	c.mustHave(t, []int{2, -3, 4}, []int{1})
	return c
}

// LemLinear: no Chain, and a tree for the rows of its facts.
func TestStage15LinearLemmas(t *testing.T) {
	c := linearCase(t)
	core := []int{0, 1}
	right := linear([]int{-2, 3}, leafWith("1", "1"))
	c.checkProofRows(t, true, proofOf(core, right), proofOf(upTo(3), right), proofOf(core, linear([]int{-2, 3}, leafWith("7", "7"))), proofOf(core, right, right), proofOf(core, right, chain([]int{-2, 3}, 1)),
		proofOf(upTo(3), linear([]int{-2, 3, -4}, leafWith("1", "1"))), proofOf(core, linear([]int{-2, 3}, impl.TreeNode{Col: 0, At: "-5"}, leafWith("1", "1", "0"), leafWith("1", "1", "0"))),
		proofOf(core, linear([]int{-2, 3}, impl.TreeNode{Col: 0, At: "1"}, leafWith("0", "1", "1"), leafWith("1", "0", "1"))))
	for _, lemma := range []impl.Lemma{
		linear([]int{-2, 3}), linear([]int{-2, 3}, leafWith()), linear([]int{-2, 3}, leafWith("1")), linear([]int{-2, 3}, leafWith("1", "1", "0")), linear([]int{-2, 3}, leafWith("1", "2")), linear([]int{-2, 3}, leafWith("0", "0")), linear([]int{-2, 3}, leafWith("-1", "-1")), linear([]int{-2, 3}, leafWith("1", "01")), linear([]int{-2, 3}, leafWith("1", "")),
		linear([]int{-2, 3}, leafWith("1", "1"), leafWith("1", "1")), linear([]int{-2, 3}, impl.TreeNode{Col: 0, At: "-5"}, leafWith("1", "1", "0")), linear([]int{-2, 3}, impl.TreeNode{Col: 1, At: "-5"}, leafWith("1", "1", "0"), leafWith("1", "1", "0")), linear([]int{-2, 3}, impl.TreeNode{Col: -1, At: "0", Mult: []string{"1", "1"}}),
		linear([]int{-2}, leafWith("1")), linear([]int{3}, leafWith("1")), linear([]int{2, 3}, leafWith("1", "1")), linear([]int{-2, -3}, leafWith("1", "1")), linear([]int{2, -3}, leafWith("1", "1")), linear(nil, leafWith()), linear([]int{-4}, leafWith()),
		{Kind: impl.LemLinear, Lits: []int{-2, 3}, Chain: []int{0}, Tree: right.Tree}, {Kind: impl.LemEqual, Lits: []int{-2, 3}, Tree: right.Tree}, {Kind: impl.LemEqual, Lits: []int{-2, 3}}, {Kind: impl.LemChain, Lits: []int{-2, 3}, Tree: right.Tree}, {Kind: impl.LemChain, Lits: []int{1}, Chain: []int{0}, Tree: right.Tree}, {Kind: 5, Lits: []int{-2, 3}, Tree: right.Tree},
	} {
		c.checkProofRows(t, false, proofOf(core, lemma), proofOf(core, lemma, right), proofOf(core, right, lemma))
	}
}

// The rows of a lemma's facts must be Ok: there may be MaxCols columns and MaxRows rows.
func TestStage15LinearSize(t *testing.T) {
	for _, row := range []struct {
		consts int
		rows   int
		want   bool
	}{{20, 21, true}, {21, 22, false}, {20, 50, true}, {20, 51, false}, {1, 50, true}, {1, 51, false}, {1, 2, true}} {
		text := declaredConsts("x", "Int", row.consts) + "(assert (<= x0 0))(assert (<= 2 x0))"
		lits, mult := []int{-2, 3}, []string{"1", "1"}
		for i := range row.rows - 2 {
			text += "(assert (<= x" + strconv.Itoa((i+1)%row.consts) + " " + strconv.Itoa(i+5) + "))"
			lits, mult = append(lits, -i-4), append(mult, "0")
		}
		c := readAsks(t, text)
		c.checkProofRows(t, row.want, proofOf(upTo(row.rows), linear(lits, leafWith(mult...))))
		c.checkProofRows(t, true, proofOf([]int{0, 1}, linear([]int{-2, 3}, leafWith("1", "1"))))
	}
}
