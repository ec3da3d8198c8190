package tests

import (
	"fmt"
	"math/rand"
	"slices"
	"strconv"
	"strings"
	"testing"

	"loop.example/g00007/impl"
)

// predicateBank has so many calls of predicates, of at most 150 constants: each is an atom.
func predicateBank(atoms int) (b impl.Bank, calls []int) {
	b = impl.NewBank()
	b.Sorts = []string{"U"}
	consts := min(atoms, 150)
	for i := range consts {
		name := "c" + strconv.Itoa(i)
		b.Funs, b.Terms = append(b.Funs, impl.Fun{Name: name, Sort: "U"}), append(b.Terms, constant(name, "U"))
	}
	for i := range atoms {
		name := "P" + strconv.Itoa(i/150)
		if i%150 == 0 {
			b.Funs = append(b.Funs, impl.Fun{Name: name, Args: []string{"U"}, Sort: "Bool"})
		}
		calls = append(calls, len(b.Terms))
		b.Terms = append(b.Terms, impl.Term{Op: impl.OpApp, Sort: "Bool", Text: name, Kids: []int{2 + i%150}})
	}
	return b, calls
}

// Exactly MaxFacts facts, and one more: then it is SearchSize, wherever they come from.
func TestStage14MaxFacts(t *testing.T) {
	for _, n := range []int{1, impl.MaxFacts, impl.MaxFacts + 1, impl.MaxFacts + 60} {
		b, calls := predicateBank(n)
		decided, propagated := sat(n+1, "T"+strings.Repeat("F", n)), sat(n+1, "T"+strings.Repeat("T", n))
		if n > impl.MaxFacts {
			// decisions end with the first fact too many; of the roots all are true before the facts are looked at
			decided, propagated = impl.Found{Status: impl.SearchSize, Steps: impl.MaxFacts + 2}, impl.Found{Status: impl.SearchSize, Steps: n + 1}
		}
		for want, c := range map[*impl.Found]searchCase{&decided: {b: b, shared: calls}, &propagated: {b: b, roots: calls}} {
			c.checkLimits(t, *want, 1, want.Steps-1, want.Steps, want.Steps+1, impl.MaxSteps)
		}
	}
	// one variable may have two atoms
	b, calls := predicateBank(impl.MaxFacts - 1)
	b.Funs = append(b.Funs, impl.Fun{Name: "s", Sort: bitsOf(1)})
	h := heapOn(b)
	s, one := h.add(constant("s", bitsOf(1))), h.add(impl.Term{Op: impl.OpBits, Sort: bitsOf(1), Text: "1"})
	calls = append(calls, h.op(impl.OpEq, "Bool", s, one))
	if f := (searchCase{b: h.bank, shared: calls}).search(impl.MaxSteps); f.Status != impl.SearchSat || f.Steps != impl.MaxFacts+1 {
		t.Errorf("status %d, %d steps", f.Status, f.Steps)
	}
	calls = append(calls, h.op(impl.OpEq, "Bool", one, s))
	if f := (searchCase{b: h.bank, shared: calls}).search(impl.MaxSteps); f.Status != impl.SearchSize || f.Steps != impl.MaxFacts+1 {
		t.Errorf("status %d, %d steps", f.Status, f.Steps)
	}
}

// sizeText asserts n inequalities, each of one of so many constants.
func sizeText(n, consts int) string {
	text := declaredConsts("x", "Int", consts)
	for i := range n {
		text += "(assert (<= x" + strconv.Itoa(i%consts) + " " + strconv.Itoa(i) + "))"
	}
	return text
}

// Rows that are no GoodRows: too many of them, of columns, and of digits.
func TestStage14Size(t *testing.T) {
	status := func(text string) int {
		c := readCase(t, text)
		f, _ := c.check(t)
		c.checkLimits(t, f, 1, f.Steps-1, f.Steps, f.Steps+1)
		return f.Status
	}
	for _, row := range []struct {
		text string
		want int
	}{
		{sizeText(50, 1), impl.SearchSat}, {sizeText(51, 1), impl.SearchSize}, {sizeText(50, 20), impl.SearchSat}, {sizeText(20, 20), impl.SearchSat},
		{sizeText(21, 21), impl.SearchSize}, {sizeText(60, 30), impl.SearchSize},
		// what clashes as equations is a conflict first, what is too much for rows is found behind it
		{sizeText(51, 1) + "(assert (not (= x0 x0)))", impl.SearchUnsat},
		// clauses alone tell that these roots are not so
		{sizeText(51, 1) + "(assert false)", impl.SearchUnsat},
		{"(declare-const u Real)(assert (<= (* (/ 1.0 " + tenTo(20) + ".0) u) " + nines(20) + ".0))", impl.SearchSat},
		{"(declare-const u Real)(assert (<= (* (/ 1.0 " + tenTo(20) + ".0) u) " + tenTo(20) + ".0))", impl.SearchSize},
		{"(declare-const u Real)(assert (not (< (* (/ 1.0 " + tenTo(20) + ".0) u) (- " + tenTo(20) + ".0))))", impl.SearchSize},
		// a sum that is not Ok
		{declaredConsts("x", "Int", 51) + "(assert (<= (+ x0 " + joinedNames("x", 1, 26) + ") (+ x26 " + joinedNames("x", 27, 51) + ")))", impl.SearchSize},
		{"(declare-const x Int)(assert (<= (* 10 (* " + tenTo(29) + " x)) 0))", impl.SearchSize},
	} {
		if got := status(row.text); got != row.want {
			t.Errorf("%s: status %d, want %d", row.text, got, row.want)
		}
	}
	// a row that comes with a decision counts, too
	if got := status(sizeText(50, 1) + "(get-value ((<= x0 50)))"); got != impl.SearchSize {
		t.Errorf("status %d", got)
	}
}

func joinedNames(name string, from, to int) string {
	var names []string
	for i := from; i < to; i++ {
		names = append(names, name+strconv.Itoa(i))
	}
	return strings.Join(names, " ")
}

// x = y + 1/2, x from 0 to most: their tree has 4 nodes more for each number that x could be.
func stripText(most int) string {
	return "(declare-const x Int)(declare-const y Int)(declare-const z Real)" +
		"(assert (<= (+ (- (* 2.0 (to_real x)) (* 2.0 (to_real y))) z) 1.0))(assert (<= 1.0 (+ (- (* 2.0 (to_real x)) (* 2.0 (to_real y))) z)))(assert (<= z 0.0))(assert (<= 0.0 z))" +
		"(assert (<= 0 x))(assert (<= x " + strconv.Itoa(most) + "))"
}

// More than MaxNodes nodes: SearchNodes. Of what is left out of a core it may be that the rest can be told no more, and it stays.
func TestStage14Nodes(t *testing.T) {
	for _, row := range []struct {
		text  string
		want  int
		nodes int
	}{
		{stripText(0), impl.SearchUnsat, 3}, {stripText(36), impl.SearchUnsat, 147}, {stripText(37), impl.SearchNodes, 0}, {stripText(100), impl.SearchNodes, 0},
		// without x <= 36 it is tired, but with x <= 1 that one stays alone
		{stripText(36) + "(assert (<= x 1))", impl.SearchUnsat, 7}, {stripText(1) + "(assert (<= x 36))", impl.SearchUnsat, 147}, {stripText(100) + "(assert (<= x 1))", impl.SearchUnsat, 7},
		{stripText(1) + "(assert (<= x 100))", impl.SearchUnsat, 7},
	} {
		c := readCase(t, row.text)
		f, _ := c.check(t)
		c.checkLimits(t, f, 1, f.Steps-1, f.Steps, f.Steps+1)
		if f.Status != row.want || row.nodes > 0 && len(f.Trace[0].Tree) != row.nodes {
			t.Errorf("%s: status %d, %v", row.text, f.Status, f.Trace)
		}
	}
}

// A row that is tightened beyond RowDigits digits: layer 12 tells nothing of such rows, and layer 13 is tired of them.
func TestStage14LongTightened(t *testing.T) {
	d := "(declare-const x Int)(declare-const p Bool)"
	below := "(< (* (/ 1.0 100000000000000000001.0) (to_real x)) (- " + nines(20) + ".0))"
	most := strings.Replace(below, "<", "<=", 1)
	for text, want := range map[string]int{
		"(assert " + below + ")":                                     impl.SearchNodes,
		"(assert " + below + ")(assert (<= 0 x))":                    impl.SearchNodes,
		"(assert " + below + ")(assert (<= 0 x))(assert (< x 0))":    impl.SearchNodes,
		"(assert " + most + ")":                                      impl.SearchSat,
		"(assert " + most + ")(assert (<= 0 x))":                     impl.SearchUnsat,
		"(assert (=> p " + below + "))(get-value (p))":               impl.SearchSat,
		"(assert (not " + below + "))(assert (<= x (- 5)))":          impl.SearchSat,
		"(assert (or p " + below + "))(assert (<= 0 x))":             impl.SearchNodes,
		"(assert (or p " + below + "))(check-sat-assuming (p))":      impl.SearchSat,
		"(assert (or p (not " + below + ")))(assert (<= 0 x))":       impl.SearchSat,
		"(check-sat-assuming (" + below + " (<= 0 x) p))":            impl.SearchNodes,
		"(check-sat-assuming ((<= 0 x) (< x 0) p " + below + "))":    impl.SearchUnsat,
		"(check-sat-assuming (" + below + " (<= 0 x) (< x 0) p))":    impl.SearchNodes,
		"(check-sat-assuming ((= x 0) " + below + "))":               impl.SearchNodes,
		"(check-sat-assuming ((not (= x x)) " + below + ")) ; clash": impl.SearchUnsat,
	} {
		c := readCase(t, d+text)
		if f, _ := c.check(t); f.Status != want {
			t.Errorf("%s: %v", text, f)
		}
	}
	// p is decided to be false, and the long row comes with it. When that is taken back the rows tell again what they cannot be, before t is decided.
	c := readCase(t, d+"(declare-const q Bool)(declare-const r Bool)(declare-const t Bool)(get-value (p q r t))(assert (or p "+below+"))(assert (or (not p) (not "+below+")))"+
		"(assert (or p q r))(assert (or p q (not r)))(assert (or p (not q) r))(assert (or p (not q) (not r)))(assert (=> p (<= x 3)))(assert (=> p (<= 5 x)))")
	if f, met := c.check(t); f.Status != impl.SearchUnsat || met["rows"] != 1 || met["end at level 0"] != 1 {
		t.Errorf("%v, %v", f, met)
	}
}

// Steps from 1 to MaxSteps; whatever else is asked, with others it is SearchBad.
func TestStage14Steps(t *testing.T) {
	for _, text := range []string{"", "(declare-const p Bool)(check-sat-assuming (p (not p)))", "(declare-const p Bool)(assert p)(assert (not p))", pigeons(3)} {
		c := readCase(t, text)
		f, _ := c.check(t)
		for _, steps := range []int{0, -1, -1000000, impl.MaxSteps + 1, 1 << 40, -1 << 63, 1<<63 - 1} {
			c.checkFound(t, steps, impl.Found{})
		}
		for steps := range f.Steps + 2 {
			c.checkLimits(t, f, steps)
		}
		c.checkLimits(t, f, impl.MaxSteps-1, impl.MaxSteps)
	}
}

// A search that does not end in MaxSteps steps.
func TestStage14Endless(t *testing.T) {
	r := rand.New(rand.NewSource(148))
	c := exactClauses(r, 180, 800, 3)
	for _, steps := range []int{100000, 300000} {
		c.checkFound(t, steps, impl.Found{Status: impl.SearchSteps, Steps: steps})
	}
	if f := c.search(impl.MaxSteps); f.Status != impl.SearchSteps || !sameFound(f, impl.Found{Status: impl.SearchSteps, Steps: impl.MaxSteps}) {
		t.Errorf("status %d, %d steps", f.Status, f.Steps)
	}
}

// Wrong inputs: all answers are zero.
func TestStage14Wrong(t *testing.T) {
	good := readCase(t, "(declare-const p Bool)(declare-const x Int)(declare-const q Bool)(assert (or p q))(get-value (x))(check-sat-assuming (p (<= x 3)))")
	good.shared = nil
	if good.search(100).Status != impl.SearchSat {
		t.Fatal("what the wrong ones are made of is no search")
	}
	x := slices.IndexFunc(good.b.Terms, func(x impl.Term) bool { return x.Sort == "Int" })
	for _, id := range []int{-1, -1 << 63, len(good.b.Terms), 1<<63 - 1, x} {
		for place := range 3 {
			for _, isFirst := range []bool{true, false} {
				wrong := good
				list := []*[]int{&wrong.roots, &wrong.asks, &wrong.shared}[place]
				*list = append(slices.Clone(*list), id)
				if isFirst {
					slices.Reverse(*list)
				}
				for _, steps := range []int{1, 100, impl.MaxSteps} {
					wrong.checkFound(t, steps, impl.Found{})
				}
			}
		}
	}
	for _, b := range noBanks(t) {
		for _, c := range []searchCase{{b: b}, {b: b, roots: []int{0}}, {b: b, asks: []int{0}}, {b: b, shared: []int{0}}, {b: b, asks: []int{0, 0}}} {
			c.checkFound(t, 100, impl.Found{})
		}
		checkRowsOf(t, b, nil)
		checkRowsOf(t, b, []impl.Fact{{Term: 0}})
	}
	// terms that Clauses does not take, wherever they are reached from, and opposite asks beside them
	d := "(declare-const p Bool)(declare-const x Int)(declare-const y Int)"
	for _, text := range []string{"(>= x y)", "(> x y)", "(distinct x y)", "(<= (div x 2) y)", "(<= (mod x 2) y)", "(<= (ite p x y) 0)"} {
		for _, form := range []string{"(assert %s)", "(check-sat-assuming (%s))", "(get-value (%s))", "(assert (or p %s))", "(check-sat-assuming (p (not p) %s))"} {
			c := readCase(t, d+fmt.Sprintf(form, text))
			c.checkFound(t, 100, impl.Found{})
		}
		// where they are not reached they do no harm
		c := readCase(t, d+"(assert "+text+")(assert p)")
		c.roots = c.roots[1:]
		c.checkFound(t, 100, sat(2, "TT"))
	}
}

// Empty banks and lists.
func TestStage14Empty(t *testing.T) {
	for _, b := range []impl.Bank{{}, impl.NewBank(), {Terms: []impl.Term{term(impl.OpFalse, "Bool")}}} {
		searchCase{b: b}.checkFound(t, 1, sat(1, "T"))
	}
	searchCase{b: impl.NewBank(), roots: []int{0}, asks: []int{0, 0}, shared: []int{0, 1}}.checkFound(t, 1, sat(1, "T"))
	searchCase{b: impl.NewBank(), roots: []int{1, 1}}.checkFound(t, 5, unsat(2, nil, chain(nil, 1, 0)))
	searchCase{b: impl.NewBank(), asks: []int{1, 1}}.checkFound(t, 5, unsat(1, []int{0}, chain([]int{1}, 0)))
}

// Wide words: searches of many variables end in a time that can be waited for.
func TestStage14WideWords(t *testing.T) {
	for _, row := range []struct {
		text string
		want int
	}{
		{"(assert (= (bvmul s t) #x0000000000000023))(assert (bvult #x0000000000000001 s))(assert (bvult #x0000000000000001 t))(assert (bvult s #x0000000000000100))(assert (bvult t #x0000000000000100))", impl.SearchSat},
		{"(assert (= (bvand s t) (bvadd (bvor s t) #x0000000000000001)))", impl.SearchSat},
		{"(assert (bvult (bvor s t) (bvand s t)))", impl.SearchUnsat},
		{"(assert (not (= (bvadd s t) (bvadd t s))))", impl.SearchUnsat},
		{"(assert (= (bvudiv s t) #x0000000000000007))(assert (= t #x0000000000000003))(assert (= ((_ extract 63 8) s) ((_ extract 55 0) #x0000000000000000)))", impl.SearchSat},
	} {
		c := readCase(t, "(declare-const s (_ BitVec 64))(declare-const t (_ BitVec 64))"+row.text)
		f := c.search(impl.MaxSteps)
		cnf := impl.Clauses(c.b, c.roots, nil)
		if f.Status != row.want {
			t.Errorf("%s: status %d, %d steps", row.text, f.Status, f.Steps)
		} else if f.Status == impl.SearchSat {
			c.checkSat(t, cnf, f)
		} else {
			c.checkUnsat(t, cnf, f)
		}
	}
}
