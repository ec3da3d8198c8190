package tests

import (
	"math/rand"
	"slices"
	"strconv"
	"testing"

	"loop.example/g00007/impl"
)

// count notes which verdict was met.
func count(met map[string]int, kind string, v impl.Verdict) {
	met[kind+" "+[]string{"bad", "sat", "unsat", "unknown"}[v.Status]]++
	for _, lemma := range v.Proof {
		met[[]string{"", "equal", "linear", "chain"}[lemma.Kind]]++
		met["branch"] += oneOf(len(lemma.Tree) > 1)
	}
	met["opposite asks"] += oneOf(v.Status == impl.VerUnsat && len(v.Proof) == 0)
	met["core of some asks"] += oneOf(v.Status == impl.VerUnsat && len(v.Core) > 1)
	for _, in := range v.Model.Interps {
		met["rows"] += oneOf(len(in.Rows) > 1)
	}
}

// drawAsks are drawn Bool terms of a bank, the last ones more often than others.
func drawAsks(r *rand.Rand, b impl.Bank, most int) (asks []int) {
	bools := boolTerms(b)
	for range r.Intn(most + 1) {
		if len(bools) > 0 {
			asks = append(asks, bools[max(r.Intn(len(bools)), r.Intn(len(bools)))])
		}
	}
	return asks
}

// askedIn asks for drawn Bool terms that are true in a model, and for the opposites of others.
func askedIn(r *rand.Rand, b impl.Bank, m impl.Model, most int) verdictCase {
	h := heapOn(b)
	values := impl.Eval(b, m)
	var asks []int
	for _, id := range drawAsks(r, b, most) {
		switch values[id] {
		case "true":
			asks = append(asks, id)
		case "false":
			asks = append(asks, h.op(impl.OpNot, "Bool", id))
		}
	}
	return verdictCase{h.bank, asks}
}

// twoTexts draws two different texts.
func twoTexts(draw func() string) (string, string) {
	one, other := draw(), draw()
	for one == other {
		other = draw()
	}
	return one, other
}

// scriptOf draws a script of one kind of terms.
func scriptOf(r *rand.Rand, kind string) string {
	switch kind {
	case "Bools":
		return drawClauses(r, 2+r.Intn(5), 1+r.Intn(20), 1+r.Intn(3))
	case "own":
		return drawOwn(r)
	case "arrays":
		return drawArrays(r)
	case "Int":
		return drawCounts(r, "Int", []string{"x0", "x1", "x2", "(mod x0 3)", "(div x1 2)", "(ite (< x0 x1) x0 x2)"})
	case "Real":
		return drawCounts(r, "Real", []string{"u0", "u1", "u2", "u2", "(to_real x0)"})
	}
	return drawMixed(r)
}

// drawOwn draws equations of elements, of functions of these, and what is said of them.
func drawOwn(r *rand.Rand) string {
	at := func(name string, n int) string { return name + strconv.Itoa(r.Intn(n)) }
	element := func() string {
		return []string{at("x", 4), at("x", 4), "(f " + at("x", 4) + ")", "(f (f " + at("x", 2) + "))", "(g " + at("x", 4) + " " + at("z", 2) + ")", "(g x0 (k " + at("x", 4) + "))"}[r.Intn(6)]
	}
	text := "(declare-sort U 0)(declare-sort |a b| 0)(declare-fun f (U) U)(declare-fun g (U |a b|) U)(declare-fun P (U) Bool)(declare-fun k (U) |a b|)" + declaredConsts("x", "U", 4) + declaredConsts("z", "|a b|", 2)
	for range 2 + r.Intn(36) {
		text += anyOf(r, 1+r.Intn(5)/2, func() string {
			one, other := twoTexts(element)
			switch r.Intn(6) {
			case 0:
				return "(P " + one + ")"
			case 1:
				return "(= " + at("z", 2) + " (k " + one + "))"
			case 2:
				return "(distinct " + one + " " + other + " x0)"
			}
			return "(= " + one + " " + other + ")"
		})
	}
	return text
}

// drawArrays draws equations of arrays of one sort, and of what stands in them.
func drawArrays(r *rand.Rand) string {
	sorts := []string{"U", "Int", bitsOf(2)}
	index, elem := sorts[r.Intn(3)], sorts[r.Intn(3)]
	at := func(name string, n int) string { return name + strconv.Itoa(r.Intn(n)) }
	array := func() string {
		return []string{at("a", 2), at("a", 2), at("a", 2), "(store " + at("a", 2) + " " + at("i", 2) + " " + at("e", 2) + ")", "(ite (= i0 i1) a0 a1)"}[r.Intn(5)]
	}
	text := "(declare-sort U 0)" + declaredConsts("a", arrayOf(index, elem), 2) + declaredConsts("i", index, 2) + declaredConsts("e", elem, 2)
	for range 2 + r.Intn(5) {
		text += anyOf(r, 1+r.Intn(4)/3, func() string {
			switch r.Intn(5) {
			case 0:
				return "(= i0 i1)"
			case 1, 2:
				one, other := twoTexts(array)
				return "(= " + one + " " + other + ")"
			case 3:
				return "(= (select " + array() + " " + at("i", 2) + ") " + at("e", 2) + ")"
			}
			one, other := twoTexts(func() string { return "(select " + array() + " " + at("i", 2) + ")" })
			return "(= " + one + " " + other + ")"
		})
	}
	return text
}

// drawCounts draws comparisons of sums of such numbers.
func drawCounts(r *rand.Rand, sort string, names []string) string {
	text := declaredConsts("x", "Int", 3) + declaredConsts("u", "Real", 3) + "(assert (< 0 x0))(assert (< x0 9))"
	for range 2 + r.Intn(10) {
		text += anyOf(r, 1+r.Intn(5)/2, func() string {
			return "(" + []string{"<=", "<", ">", ">=", "=", "distinct"}[r.Intn(6)] + " " + drawSumText(r, sort, names) + " " + drawSumText(r, sort, names) + ")"
		})
	}
	return text
}

// Scripts of each kind: what is said, promises 14, 17 and 19.
func TestStage15Drawn(t *testing.T) {
	r := rand.New(rand.NewSource(151))
	met := map[string]int{}
	kinds := []string{"Bools", "own", "arrays", "Int", "Real", "mix"}
	for range 60 {
		for _, kind := range kinds {
			c := readAsks(t, scriptOf(r, kind))
			c.checkPrepare(t)
			v := c.check(t, 20000)
			count(met, kind, v)
			if kind == "Bools" && (v.Status == impl.VerSat) != isSatBools(searchCase{b: c.b, asks: c.asks}) {
				t.Fatalf("%s\nasks %v: %v", shortBank(c.b), c.asks, v)
			}
		}
	}
	for _, kind := range kinds {
		mustBeMet(t, met, 5, kind+" sat", kind+" unsat")
	}
	mustBeMet(t, met, 5, "equal", "linear", "chain", "opposite asks", "core of some asks", "rows")
	mustBeMet(t, met, 2, "branch")
}

// Banks of all operations: drawn asks, and asks that are so in a drawn model, which are never unsat.
func TestStage15DrawnBanks(t *testing.T) {
	r := rand.New(rand.NewSource(152))
	met := map[string]int{}
	for n := range 500 {
		b := mixBank(t, r)
		if n%2 == 0 {
			b = drawTold(r, 5+r.Intn(25))
		}
		m := drawModel(r, b)
		c := verdictCase{b, drawAsks(r, b, 6)}
		c.checkPrepare(t)
		v := c.check(t, 3000)
		count(met, "drawn", v)
		if v.Status == impl.VerUnsat && impl.Holds(b, m, c.asksOf(v.Core)) {
			t.Fatalf("%s\nasks %v, core %v: it holds in %v", shortBank(b), c.asks, v.Core, m)
		}
		so := askedIn(r, b, m, 6)
		if !impl.Holds(so.b, m, so.asks) {
			continue
		}
		if v = so.check(t, 3000); v.Status == impl.VerUnsat {
			t.Fatalf("%s\nasks %v are so in %v: %v", shortBank(so.b), so.asks, m, v)
		}
		count(met, "so", v)
	}
	mustBeMet(t, met, 50, "drawn sat", "drawn unsat", "so sat")
	mustBeMet(t, met, 5, "drawn unknown", "so unknown", "rows")
}

// Promise 16: over Bools and words alone the verdict is sat or unsat, as trying all values tells.
func TestStage15Words(t *testing.T) {
	r := rand.New(rand.NewSource(153))
	met := map[string]int{}
	for range 1500 {
		b := drawWordBank(r, 6)
		c := verdictCase{b, drawAsks(r, b, 5)}
		v := c.check(t, impl.MaxSteps)
		count(met, "words", v)
		if isSat := isSatWords(b, c.asks); v.Status == impl.VerSat != isSat || v.Status == impl.VerUnsat == isSat {
			t.Fatalf("%s\nasks %v: %v", shortBank(b), c.asks, v)
		}
		met["all 14"] += oneOf(len(b.Terms) == 2+len(b.Funs)+14)
	}
	mustBeMet(t, met, 50, "words sat", "words unsat", "all 14")
}

// hardWords are asks over 8 digits and at most 14 terms that take the search more steps than most.
func hardWords() []string {
	s6, s4 := "(declare-const s (_ BitVec 6))(declare-const t (_ BitVec 2))", "(declare-const s (_ BitVec 4))(declare-const t (_ BitVec 4))"
	return []string{
		s4 + "(assert (not (= (bvadd (bvmul (bvudiv s t) t) (bvurem s t)) s)))",
		s4 + "(assert (not (= (bvmul s t) (bvmul t s))))",
		s4 + "(assert (not (= (bvmul s (bvadd s t)) (bvadd (bvmul s s) (bvmul s t)))))",
		s4 + "(assert (= (bvmul s s) (bvadd (bvmul t t) #b0010)))(assert (bvult s t))",
		s6 + "(assert (= (bvmul s s) #b000111))",
		s6 + "(assert (not (= (bvudiv (bvudiv s #b000011) #b000010) (bvudiv s #b000110))))",
		s6 + "(assert (= (bvurem (bvmul s s) #b000101) #b000010))(assert (bvult s #b001000))",
		s6 + "(assert (= (bvshl s (bvmul s s)) (bvashr s s)))(assert (not (= s #b000000)))",
		s6 + "(assert (bvslt (bvmul (concat t #b0001) s) (bvneg s)))(assert (= (bvudiv s (concat #b0000 t)) #b000101))",
	}
}

// Products, quotients and remainders within the bounds of promise 16.
func TestStage15HardWords(t *testing.T) {
	met := map[string]int{}
	for _, text := range hardWords() {
		c := readAsks(t, text)
		v := c.check(t, impl.MaxSteps)
		count(met, "hard", v)
		if isSat := isSatWords(c.b, c.asks); v.Status == impl.VerSat != isSat || v.Status == impl.VerUnsat == isSat {
			t.Fatalf("%s: %v", text, v)
		}
	}
	mustBeMet(t, met, 2, "hard sat", "hard unsat")
}

// Asks in another order, some of them twice, and more beside them: a core is one whatever else is asked.
func TestStage15MoreAsks(t *testing.T) {
	r := rand.New(rand.NewSource(154))
	met := map[string]int{}
	kinds := []string{"Bools", "own", "arrays", "Int", "Real", "mix"}
	for n := 0; met["unsat"] < 60; n++ {
		c := readAsks(t, scriptOf(r, kinds[n%6]))
		v := impl.Solve(c.b, c.asks, 20000)
		if v.Status != impl.VerUnsat {
			continue
		}
		met["unsat"]++
		more := verdictCase{c.b, slices.Concat(c.asksOf(v.Core), drawAsks(r, c.b, 3), c.asksOf(v.Core))}
		r.Shuffle(len(more.asks), func(i, j int) { more.asks[i], more.asks[j] = more.asks[j], more.asks[i] })
		switch again := more.check(t, 20000); again.Status {
		case impl.VerSat:
			t.Fatalf("%s\ncore %v: sat with %v", shortBank(c.b), c.asksOf(v.Core), more.asks)
		case impl.VerUnsat:
			met["again"]++
			// of the same ask the first one is named
			for _, number := range again.Core {
				if slices.Index(more.asks, more.asks[number]) != number {
					t.Fatalf("%v: core %v", more.asks, again.Core)
				}
			}
		}
	}
	mustBeMet(t, met, 50, "again")
}
