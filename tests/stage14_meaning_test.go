package tests

import (
	"fmt"
	"math/rand"
	"slices"
	"strconv"
	"strings"
	"testing"

	"loop.example/g00007/impl"
)

// checkSat: each clause and each ask is true, the facts do not clash, and the numbers meet their rows.
func (c searchCase) checkSat(t *testing.T, cnf impl.Cnf, f impl.Found) {
	t.Helper()
	a := make(assignment, cnf.Vars+1)
	if len(f.Values) != cnf.Vars || len(f.Core)+len(f.Trace) > 0 {
		t.Fatalf("%d variables: %v", cnf.Vars, f)
	}
	for i, isTrue := range f.Values {
		a[i+1] = 2*oneOf(isTrue) - 1
	}
	for _, clause := range cnf.Clauses {
		if !slices.ContainsFunc(clause, func(lit int) bool { return truth(a, lit) > 0 }) {
			t.Fatalf("%s: %v is false in %v", shortBank(c.b), clause, f)
		}
	}
	for _, ask := range c.asks {
		if truth(a, cnf.Lits[ask]) < 0 {
			t.Fatalf("%s: %d is asked, and false in %v", shortBank(c.b), ask, f)
		}
	}
	var facts []impl.Fact
	for _, atom := range cnf.Atoms {
		facts = append(facts, impl.Fact{Term: atom.Term, On: truth(a, atom.Lit) > 0})
	}
	set := impl.RowsOf(c.b, facts)
	if core := impl.Clash(c.b, facts); len(facts) > impl.MaxFacts || len(core) > 0 || !set.Ok || !slices.Equal(set.Cols, f.Cols) {
		t.Fatalf("%s: %v, %v, %v", shortBank(c.b), f, core, set)
	}
	checkSolution(t, len(set.Cols), set.Whole, set.Rows, f.Vals)
}

// resolvedOf is two clauses resolved; there must be just one literal whose opposite is in the other one.
func resolvedOf(one, other []int) (both []int, isRight bool) {
	met := 0
	for _, lit := range slices.Concat(one, other) {
		if slices.Contains(one, -lit) || slices.Contains(other, -lit) {
			met++
		} else if !slices.Contains(both, lit) {
			both = append(both, lit)
		}
	}
	slices.SortFunc(both, byVariable)
	return both, met == 2
}

// isRightLemma is what the checker of chapter 15 asks, as it is said there; clauses are those ahead of the lemma.
func (c searchCase) isRightLemma(cnf impl.Cnf, clauses [][]int, lemma impl.Lemma) bool {
	for i, lit := range lemma.Lits {
		if lit == 0 || lit < -cnf.Vars || lit > cnf.Vars || i > 0 && varOf(lit) <= varOf(lemma.Lits[i-1]) {
			return false
		}
	}
	facts := (&plainSearch{cnf: cnf}).factsBehind(lemma.Lits)
	switch lemma.Kind {
	case impl.LemEqual:
		return len(lemma.Chain)+len(lemma.Tree) == 0 && len(impl.Clash(c.b, facts)) > 0
	case impl.LemLinear:
		set := impl.RowsOf(c.b, facts)
		return len(lemma.Chain) == 0 && set.Ok && impl.CheckTree(len(set.Cols), set.Whole, set.Rows, lemma.Tree)
	}
	if lemma.Kind != impl.LemChain || len(lemma.Tree) > 0 || len(lemma.Chain) == 0 {
		return false
	}
	var lits []int
	for i, number := range lemma.Chain {
		if number < 0 || number >= len(clauses) {
			return false
		}
		isRight := true
		if i == 0 {
			lits, _ = resolvedOf(clauses[number], nil)
		} else if lits, isRight = resolvedOf(lits, clauses[number]); !isRight {
			return false
		}
	}
	return slices.Equal(lits, lemma.Lits)
}

// checkUnsat: each lemma is right, and the last one says that the core's asks are not all so; or two of these are opposite.
func (c searchCase) checkUnsat(t *testing.T, cnf impl.Cnf, f impl.Found) {
	t.Helper()
	var opposites []int
	for i, number := range f.Core {
		if number < 0 || number >= len(c.asks) || i > 0 && number <= f.Core[i-1] {
			t.Fatalf("%s, %d asks: %v", shortBank(c.b), len(c.asks), f)
		}
		opposites = append(opposites, -cnf.Lits[c.asks[number]])
	}
	if len(f.Trace) == 0 {
		if len(opposites) != 2 || opposites[0] != -opposites[1] || f.Steps > 0 {
			t.Fatalf("%s: %v", shortBank(c.b), f)
		}
		return
	}
	clauses := slices.Clone(cnf.Clauses)
	for i, lemma := range f.Trace {
		if !c.isRightLemma(cnf, clauses, lemma) {
			t.Fatalf("%s: number %d of the trace is wrong: %v", shortBank(c.b), i, f)
		}
		clauses = append(clauses, lemma.Lits)
	}
	slices.SortFunc(opposites, byVariable)
	if last := f.Trace[len(f.Trace)-1]; last.Kind != impl.LemChain || !slices.Equal(last.Lits, opposites) || len(f.Values)+len(f.Cols)+len(f.Vals) > 0 {
		t.Fatalf("%s: core %v, the last lemma is %v", shortBank(c.b), f.Core, last)
	}
}

// checkAll holds a search against its second reading, looks at what it means, and at the promise, with limits near the steps that are
// needed and drawn ones.
func (c searchCase) checkAll(t *testing.T, r *rand.Rand, met map[string]int) impl.Found {
	t.Helper()
	f, more := c.check(t)
	for name, n := range more {
		met[name] += n
	}
	met[[]string{"bad", "sat", "unsat", "steps", "nodes", "size"}[f.Status]]++
	cnf := impl.Clauses(c.b, c.roots, slices.Concat(c.shared, c.asks))
	switch f.Status {
	case impl.SearchSat:
		c.checkSat(t, cnf, f)
	case impl.SearchUnsat:
		c.checkUnsat(t, cnf, f)
	}
	if f.Status == impl.SearchBad {
		return f
	}
	c.checkLimits(t, f, 1, 2, f.Steps-1, f.Steps, f.Steps+1, f.Steps+2+r.Intn(1000), impl.MaxSteps-1, impl.MaxSteps, 1+r.Intn(f.Steps+1), 1+r.Intn(f.Steps+1))
	return f
}

// mustBeMet is for what a test is about: that it was met, so often at the least.
func mustBeMet(t *testing.T, met map[string]int, least int, names ...string) {
	t.Helper()
	for _, name := range names {
		if met[name] < least {
			t.Errorf("%q was met %d times: %v", name, met[name], met)
		}
	}
}

// caseOf reads a script. What it asserts are roots, asks, or both, as drawn.
func caseOf(t *testing.T, r *rand.Rand, text string) searchCase {
	t.Helper()
	res := parsed(t, text)
	if res.Err != impl.LangOk {
		t.Fatalf("%s: error %d at %d", text, res.Err, res.At)
	}
	c := searchCase{b: res.Script.Bank}
	asked := r.Intn(5)
	for _, command := range res.Script.Commands {
		if r.Intn(4) < asked {
			c.asks = append(c.asks, command.Ids...)
		} else {
			c.roots = append(c.roots, command.Ids...)
		}
	}
	for _, id := range boolTerms(c.b) {
		if r.Intn(8) == 0 && impl.Clauses(c.b, []int{id}, nil).Ok {
			c.shared = append(c.shared, id)
		}
	}
	return c
}

// anyOf asserts that one of some drawn terms is so, or not so.
func anyOf(r *rand.Rand, n int, draw func() string) string {
	var parts []string
	for range n {
		part := draw()
		if r.Intn(2) == 0 {
			part = "(not " + part + ")"
		}
		parts = append(parts, part)
	}
	if n == 1 {
		return "(assert " + parts[0] + ")"
	}
	return "(assert (or " + strings.Join(parts, " ") + "))"
}

// declaredConsts declares constants of a sort, name0 and so on.
func declaredConsts(name, sort string, n int) string {
	var text strings.Builder
	for i := range n {
		text.WriteString("(declare-const " + name + strconv.Itoa(i) + " " + sort + ")")
	}
	return text.String()
}

func drawClauses(r *rand.Rand, vars, clauses, width int) string {
	var text strings.Builder
	text.WriteString(declaredConsts("p", "Bool", vars))
	for range clauses {
		text.WriteString(anyOf(r, max(1, width-r.Intn(2)), func() string { return "p" + strconv.Itoa(r.Intn(vars)) }))
	}
	return text.String()
}

// isSatBools tries all values of the constants of a bank that has no others than Bools.
func isSatBools(c searchCase) bool {
	all := slices.Concat(c.roots, c.asks)
	for digits := range 1 << len(c.b.Funs) {
		var m impl.Model
		for i, f := range c.b.Funs {
			m.Interps = append(m.Interps, impl.Interp{Name: f.Name, Rest: strconv.FormatBool(digits>>i&1 == 1)})
		}
		if impl.Holds(c.b, m, all) {
			return true
		}
	}
	return false
}

// Few Bools, all limits, and held against all values that they may have.
func TestStage14DrawnBools(t *testing.T) {
	r := rand.New(rand.NewSource(141))
	met := map[string]int{}
	for range 250 {
		vars := 1 + r.Intn(6)
		c := caseOf(t, r, drawClauses(r, vars, 1+r.Intn(4*vars), 1+r.Intn(3)))
		f := c.checkAll(t, r, met)
		if (f.Status == impl.SearchSat) != isSatBools(c) {
			t.Fatalf("%s, roots %v, asks %v: %v", shortBank(c.b), c.roots, c.asks, f)
		}
		for limit := range min(f.Steps, 60) {
			c.checkLimits(t, f, limit)
		}
	}
	mustBeMet(t, met, 5, "sat", "unsat", "opposite asks", "end at level 0", "end at an ask", "end at an ask of level 0", "end of one number", "literal of level 0", "far back")
}

// Terms of Bools of each kind, deep within each other.
func TestStage14DrawnLogic(t *testing.T) {
	r := rand.New(rand.NewSource(142))
	met := map[string]int{}
	for range 150 {
		h, of := drawnFrom(r, []string{"Bool", "Bool", "Bool"})
		for range 5 + r.Intn(30) {
			switch r.Intn(4) {
			case 0:
				h.op(impl.OpNot, "Bool", of("Bool"))
			case 1:
				h.op([]int{impl.OpXor, impl.OpImplies, impl.OpEq}[r.Intn(3)], "Bool", of("Bool"), of("Bool"))
			case 2:
				h.op(impl.OpIte, "Bool", of("Bool"), of("Bool"), of("Bool"))
			case 3:
				h.op(impl.OpAnd+r.Intn(2), "Bool", []int{of("Bool"), of("Bool"), of("Bool"), of("Bool")}[:2+r.Intn(3)]...)
			}
		}
		c := searchCase{b: h.bank}
		for range 1 + r.Intn(5) {
			list := []*[]int{&c.roots, &c.asks, &c.shared}[r.Intn(3)]
			*list = append(*list, of("Bool"))
		}
		if f := c.checkAll(t, r, met); (f.Status == impl.SearchSat) != isSatBools(c) {
			t.Fatalf("%s, roots %v, asks %v: %v", shortBank(c.b), c.roots, c.asks, f)
		}
	}
	mustBeMet(t, met, 5, "sat", "unsat")
}

// pigeons says that each of one more than so many sits in one of so many holes, and no two in one.
func pigeons(holes int) string {
	at := func(i, k int) string { return fmt.Sprintf("p%d", i*holes+k) }
	text := declaredConsts("p", "Bool", holes*(holes+1))
	for i := range holes + 1 {
		text += "(assert (or"
		for k := range holes {
			text += " " + at(i, k)
		}
		text += "))"
		for other := range i {
			for k := range holes {
				text += "(assert (or (not " + at(i, k) + ") (not " + at(other, k) + ")))"
			}
		}
	}
	return text
}

// exactClauses are drawn clauses of so many literals each.
func exactClauses(r *rand.Rand, vars, clauses, width int) searchCase {
	b := impl.NewBank()
	for i := range vars {
		b.Funs = append(b.Funs, impl.Fun{Name: "p" + strconv.Itoa(i), Sort: "Bool"})
		b.Terms = append(b.Terms, constant("p"+strconv.Itoa(i), "Bool"))
	}
	h := heapOn(b)
	var c searchCase
	for range clauses {
		var kids []int
		for _, v := range r.Perm(vars)[:width] {
			kids = append(kids, 2+v)
			if r.Intn(2) == 0 {
				kids[len(kids)-1] = h.op(impl.OpNot, "Bool", 2+v)
			}
		}
		c.roots = append(c.roots, h.op(impl.OpOr, "Bool", kids...))
	}
	c.b = h.bank
	return c
}

// behindOwn puts the terms of a search over Bools behind those of a bank of own sorts, which is asked for asks, with shared terms.
func (c searchCase) behindOwn(b impl.Bank, asks, shared []int) searchCase {
	base := len(b.Terms)
	moved := func(ids []int) (list []int) {
		for _, id := range ids {
			list = append(list, id+base)
		}
		return list
	}
	b.Funs = append(b.Funs, c.b.Funs...)
	for _, x := range c.b.Terms {
		x.Kids = moved(x.Kids)
		b.Terms = append(b.Terms, x)
	}
	return searchCase{b, moved(c.roots), append(asks, moved(c.asks)...), shared}
}

// ownConsts is a bank of so many constants of an own sort.
func ownConsts(n int) impl.Bank {
	b := impl.Bank{Sorts: []string{"U"}}
	for i := range n {
		b.Funs = append(b.Funs, impl.Fun{Name: "y" + strconv.Itoa(i), Sort: "U"})
		b.Terms = append(b.Terms, constant("y"+strconv.Itoa(i), "U"))
	}
	return b
}

// withSelfEqual says of so many constants that each is itself. That is decided to be false first: a conflict that makes no LemChain lemma.
func (c searchCase) withSelfEqual(n int) searchCase {
	b := ownConsts(n)
	for i := range n {
		b.Terms = append(b.Terms, term(impl.OpEq, "Bool", i, i))
	}
	return c.behindOwn(b, nil, upTo(2 * n)[n:])
}

// withLongEqual asks for equations of so many constants in a row. That the first and the last are equal is decided to be false first: that is
// a lemma longer than all others.
func (c searchCase) withLongEqual(n int) searchCase {
	b := ownConsts(n)
	b.Terms = append(b.Terms, term(impl.OpEq, "Bool", 0, n-1))
	for i := range n - 1 {
		b.Terms = append(b.Terms, term(impl.OpEq, "Bool", i, i+1))
	}
	return c.behindOwn(b, upTo(2 * n)[n+1:], []int{n})
}

// Searches of many conflicts: restarts, activities that are halved, lemmas that are dropped and reasons that are not.
func TestStage14ManyConflicts(t *testing.T) {
	met := map[string]int{}
	r := rand.New(rand.NewSource(143))
	for _, holes := range []int{3, 4, 4, 5} {
		caseOf(t, r, pigeons(holes)).checkAll(t, r, met)
	}
	for _, seed := range []int64{2416, 3468, 1771, 12, 13, 14, 15} {
		r := rand.New(rand.NewSource(seed))
		vars := 36 + r.Intn(20)
		c := exactClauses(r, vars, vars*(42+r.Intn(6))/10, 3)
		c.checkAll(t, r, met)
		half := r.Intn(len(c.roots))
		c.roots, c.asks = c.roots[:half], c.roots[half:]
		c.checkAll(t, r, met)
	}
	mustBeMet(t, met, 3, "sat", "unsat", "restart", "halved", "dropping", "of one length", "reason spared", "far back", "literal of level 0", "decided by activity", "decided to a phase that is true", "end at level 0", "end at an ask", "unit dropped")
}

// Exactly KeepMax LemChain lemmas at a restart, and one more: then half as many are left. Other lemmas are not dropped, however long.
func TestStage14KeepMax(t *testing.T) {
	met, long := map[string]int{}, map[string]int{}
	for _, seed := range []int64{2416, 1771} {
		r := rand.New(rand.NewSource(seed))
		vars := 36 + r.Intn(20)
		c := exactClauses(r, vars, vars*(42+r.Intn(6))/10, 3)
		for _, n := range []int{3, 4} {
			c.withSelfEqual(n).checkAll(t, r, met)
		}
		c.withLongEqual(70).checkAll(t, r, long)
	}
	mustBeMet(t, long, 1, "dropping")
	mustBeMet(t, met, 1, "just KeepMax", "one more than KeepMax", "dropping")
}

// Words: drawn operations of up to 5 digits that are to give drawn ones.
func TestStage14DrawnBits(t *testing.T) {
	r := rand.New(rand.NewSource(144))
	met := map[string]int{}
	ops := []string{"bvand", "bvor", "bvxor", "bvadd", "bvsub", "bvmul", "bvudiv", "bvurem", "bvshl", "bvlshr", "bvashr"}
	for range 80 {
		w := 1 + r.Intn(5)
		var word func(deep int) string
		word = func(deep int) string {
			if deep == 0 || r.Intn(4) == 0 {
				if r.Intn(4) == 0 {
					return fmt.Sprintf("#b%0*b", w, r.Intn(1<<w))
				}
				return fmt.Sprintf("s%d", r.Intn(3))
			}
			return "(" + ops[r.Intn(len(ops))] + " " + word(deep-1) + " " + word(deep-1) + ")"
		}
		text := declaredConsts("s", bitsOf(w), 3)
		for range 1 + r.Intn(8) {
			text += anyOf(r, 1+r.Intn(5)/4, func() string {
				return "(" + []string{"=", "=", "bvult", "bvsle"}[r.Intn(4)] + " " + word(2) + " " + word(1) + ")"
			})
		}
		caseOf(t, r, text).checkAll(t, r, met)
	}
	mustBeMet(t, met, 5, "sat", "unsat", "end at level 0", "end at an ask", "restart")
}

// Equations of own sorts, functions of these, and what is said of them.
func TestStage14DrawnEqual(t *testing.T) {
	r := rand.New(rand.NewSource(145))
	met := map[string]int{}
	for range 120 {
		var one func(deep int) string
		one = func(deep int) string {
			switch r.Intn(3 + min(deep, 1)) {
			case 3:
				return "(f " + one(deep-1) + ")"
			case 2:
				if deep > 0 {
					return "(g " + one(deep-1) + " " + one(deep-1) + ")"
				}
			}
			return "x" + strconv.Itoa(r.Intn(4))
		}
		text := "(declare-sort U 0)(declare-fun f (U) U)(declare-fun g (U U) U)(declare-fun P (U) Bool)" + declaredConsts("x", "U", 4)
		for range 3 + r.Intn(30) {
			text += anyOf(r, 1+r.Intn(3), func() string {
				if r.Intn(5) == 0 {
					return "(P " + one(1) + ")"
				}
				return "(= " + one(r.Intn(3)) + " " + one(r.Intn(2)) + ")"
			})
		}
		caseOf(t, r, text).checkAll(t, r, met)
	}
	mustBeMet(t, met, 3, "sat", "unsat", "equal", "one literal", "no lemma of one number", "restart", "end at level 0", "end at an ask")
}

// drawSumText is a sum of multiples of some constants, and of what to_real makes of those of whole numbers.
func drawSumText(r *rand.Rand, sort string, names []string) string {
	number := func() string {
		n := strconv.Itoa(1 + r.Intn(5))
		if sort == "Real" {
			n += []string{".0", ".5"}[r.Intn(2)]
		}
		if r.Intn(2) == 0 {
			return "(- " + n + ")"
		}
		return n
	}
	text := "(+ " + number()
	for range 1 + r.Intn(2) {
		text += " (* " + number() + " " + names[r.Intn(len(names))] + ")"
	}
	return text + ")"
}

// Inequalities of whole and of rational numbers.
func TestStage14DrawnNumbers(t *testing.T) {
	r := rand.New(rand.NewSource(146))
	met := map[string]int{}
	for n := range 160 {
		text := declaredConsts("x", "Int", 3) + declaredConsts("u", "Real", 2)
		sorts := [][]string{{"Int"}, {"Real"}, {"Int", "Real"}}[n%3]
		for range 2 + r.Intn(14) {
			text += anyOf(r, 1+r.Intn(5)/2, func() string {
				sort := sorts[r.Intn(len(sorts))]
				names := []string{"x0", "x1", "x2"}
				if sort == "Real" {
					names = []string{"u0", "u1", "(to_real x0)", "(to_real (+ x1 x2 1))"}
				}
				return "(" + []string{"<=", "<"}[r.Intn(2)] + " " + drawSumText(r, sort, names) + " " + drawSumText(r, sort, names) + ")"
			})
		}
		caseOf(t, r, text).checkAll(t, r, met)
	}
	mustBeMet(t, met, 3, "sat", "unsat", "rows", "rows, another order", "whole", "whole, left out", "whole, another order", "top below", "end at level 0", "end at an ask")
}

// prepared is what chapter 15 makes of a bank and asks: simplified, lowered, and simplified.
func prepared(b impl.Bank, asks []int) (c searchCase, isOk bool) {
	imagesOf := func(to, ids []int) (images []int) {
		for _, id := range ids {
			images = append(images, to[id])
		}
		return images
	}
	once := func(ids []int) (list []int) {
		for _, id := range ids {
			if !slices.Contains(list, id) {
				list = append(list, id)
			}
		}
		return list
	}
	first := impl.Simplify(b)
	if !first.Ok {
		return c, false
	}
	asks = imagesOf(first.To, asks)
	low := impl.Lower(first.Bank, asks)
	if !low.Ok {
		return c, false
	}
	second := impl.Simplify(low.Bank)
	if !second.Ok {
		return c, false
	}
	asks = imagesOf(second.To, imagesOf(low.To, asks))
	return searchCase{second.Bank, once(imagesOf(second.To, low.Roots)), asks, once(imagesOf(second.To, low.Shared))}, true
}

// drawMixed draws clauses of what can be said of several sorts at once, by functions and arrays from one to the other.
func drawMixed(r *rand.Rand) string {
	text := "(declare-sort U 0)(declare-fun f (Int) Int)(declare-fun g (U) Int)(declare-fun h ((_ BitVec 2)) U)" +
		declaredConsts("x", "Int", 3) + declaredConsts("y", "U", 2) + declaredConsts("s", "(_ BitVec 2)", 2) + declaredConsts("a", "(Array Int U)", 2) + declaredConsts("p", "Bool", 2)
	pick := func(list ...string) string { return list[r.Intn(len(list))] }
	number := func() string { return pick("x0", "x1", "x2", "(f x0)", "(f x1)", "(g y0)", "(g y1)", "1", "0") }
	element := func() string { return pick("y0", "y1", "(h s0)", "(h s1)", "(select a0 x0)", "(select a1 x1)") }
	word := func() string { return pick("s0", "s1", "(bvadd s0 s1)", "#b01") }
	for range 2 + r.Intn(16) {
		text += anyOf(r, 1+r.Intn(2), func() string {
			switch r.Intn(9) {
			case 0:
				return "(= " + word() + " " + word() + ")"
			case 1, 2:
				return "(= " + element() + " " + element() + ")"
			case 3:
				return "(= " + number() + " " + number() + ")"
			case 4:
				return pick("p0", "p1")
			case 5:
				return "(= " + pick("a0", "a1") + " (store " + pick("a0", "a1") + " " + number() + " " + element() + "))"
			case 6:
				return "(< (mod " + number() + " 3) " + number() + ")"
			}
			return "(" + pick("<", "<=") + " (+ " + number() + " " + number() + ") " + number() + ")"
		})
	}
	return text
}

// Several kinds together, lowered: words, elements, numbers and arrays.
func TestStage14DrawnMix(t *testing.T) {
	r := rand.New(rand.NewSource(147))
	met := map[string]int{}
	for n := range 160 {
		var b impl.Bank
		var asks []int
		if n%8 > 0 {
			script := parsed(t, drawMixed(r)).Script
			b = script.Bank
			for _, command := range script.Commands {
				asks = append(asks, command.Ids...)
			}
		} else {
			b = mixBank(t, r)
			for _, id := range boolTerms(b) {
				if r.Intn(8) == 0 {
					asks = append(asks, id)
				}
			}
		}
		c, isOk := prepared(b, asks)
		cnf := impl.Clauses(c.b, c.roots, slices.Concat(c.shared, c.asks))
		if !isOk || len(cnf.Clauses) > 2000 || len(cnf.Atoms) > 130 {
			met["great"]++
			continue
		}
		c.checkAll(t, r, met)
	}
	mustBeMet(t, met, 5, "sat", "unsat", "equal", "rows", "rows, another order", "size", "decided by activity")
	mustBeMet(t, met, 1, "whole", "top below", "restart")
}
