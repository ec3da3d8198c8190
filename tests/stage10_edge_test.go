package tests

import (
	"slices"
	"strconv"
	"testing"

	"loop.example/g00007/impl"
)

// Terms that neither a root nor a shared term reaches have no literal and no word, and make no variable.
func TestStage10Reached(t *testing.T) {
	b := parsed(t, declaredWords+"(get-value ((and p q) (bvadd m n) (= m n) (< x y) (not r) (g u x) (ite p x y) (distinct u v) (div x 2) (mod x 2) (>= x y) (> x y) (P2 (ite q m n)) (P2 m) true))").Script.Bank
	for _, row := range []struct {
		roots, shared []string
		reached       []string
		vars, clauses int
	}{
		{nil, nil, nil, 1, 1},
		{[]string{"true"}, nil, []string{"true"}, 1, 2},
		{[]string{"false"}, nil, []string{"false"}, 1, 2},
		{nil, []string{"true"}, []string{"true"}, 1, 1},
		{[]string{"p"}, nil, []string{"p"}, 2, 2},
		{nil, []string{"p"}, []string{"p"}, 2, 1},
		{[]string{"p"}, []string{"p"}, []string{"p"}, 2, 2},
		{[]string{"p", "p", "p"}, []string{"p", "p"}, []string{"p"}, 2, 4},
		{[]string{"(not r)"}, nil, []string{"r", "(not r)"}, 2, 2},
		{[]string{"(not r)"}, []string{"p"}, []string{"p", "r", "(not r)"}, 3, 2},
		{[]string{"p"}, []string{"(not r)"}, []string{"p", "r", "(not r)"}, 3, 2},
		{[]string{"(and p q)"}, nil, []string{"p", "q", "(and p q)"}, 4, 5},
		{nil, []string{"(and p q)"}, []string{"p", "q", "(and p q)"}, 4, 4},
		{[]string{"q"}, []string{"(and p q)", "q"}, []string{"p", "q", "(and p q)"}, 4, 5},
		{[]string{"(< x y)"}, []string{"(g u x)"}, []string{"x", "y", "u", "(< x y)", "(g u x)"}, 3, 2},
		{[]string{"(= m n)"}, []string{"(P2 m)"}, []string{"m", "n", "(= m n)", "(P2 m)"}, 9, 13},
		{nil, []string{"(P2 m)"}, []string{"m", "(P2 m)"}, 4, 1},
	} {
		var roots, shared []int
		for _, text := range row.roots {
			roots = append(roots, termAt(t, b, text))
		}
		for _, text := range row.shared {
			shared = append(shared, termAt(t, b, text))
		}
		c := checkClauses(t, b, roots, shared)
		if !c.Ok || c.Vars != row.vars || len(c.Clauses) != row.clauses || c.Roots != row.clauses-len(roots) {
			t.Errorf("%v, %v: %s", row.roots, row.shared, shortCnf(c))
		}
		for id := range b.Terms {
			isReached := slices.Contains(row.reached, impl.TermText(b, id))
			isTold := c.Lits[id] != 0 || len(c.Bits[id]) > 0
			if isTold != (isReached && (b.Terms[id].Sort == "Bool" || b.Terms[id].Sort == bitsOf(2))) {
				t.Errorf("%v, %v: %s has %d, %v", row.roots, row.shared, impl.TermText(b, id), c.Lits[id], c.Bits[id])
			}
		}
	}
}

// The roots' clauses stand in the order of the roots, each as often as its root; the terms are gone through by index all the same.
func TestStage10Roots(t *testing.T) {
	b := parsed(t, declaredWords+asserted("(and p q)", "(or p r)", "(= m n)", "true", "false")).Script.Bank
	var roots []int
	for _, text := range []string{"(and p q)", "(or p r)", "(= m n)", "true", "false"} {
		roots = append(roots, termAt(t, b, text))
	}
	want := checkClauses(t, b, roots, nil)
	for _, others := range [][]int{{roots[4], roots[2], roots[3], roots[1], roots[0]}, {roots[0], roots[0], roots[1], roots[2], roots[4], roots[3], roots[4]}, slices.Repeat(roots, 300)} {
		for _, shared := range [][]int{nil, roots, {roots[2]}, slices.Repeat(roots, 200)} {
			c := checkClauses(t, b, others, shared)
			if c.Vars != want.Vars || c.Roots != want.Roots || !slices.EqualFunc(c.Clauses[:c.Roots], want.Clauses[:want.Roots], slices.Equal) || !slices.Equal(c.Lits, want.Lits) || len(c.Clauses) != c.Roots+len(others) {
				t.Errorf("%v, %v: %s", others, shared, shortCnf(c))
			}
		}
	}
}

// Banks without terms, without OpTrue and OpFalse, or full of terms.
func TestStage10SmallBanks(t *testing.T) {
	for _, b := range []impl.Bank{{}, {Sorts: []string{}, Funs: []impl.Fun{}, Terms: []impl.Term{}}, impl.NewBank(), {Sorts: []string{"U", "a b"}}, manyNames(150, 150), manyTerms(impl.MaxTerms)} {
		for _, none := range [][]int{nil, {}} {
			if c := checkClauses(t, b, none, none); !c.Ok || c.Vars != 1 || c.Roots != 1 || len(c.Lits) != len(b.Terms) || len(c.Bits) != len(b.Terms) || len(c.Atoms) != 0 {
				t.Errorf("%s: %s", shortBank(b), shortCnf(c))
			}
		}
	}
	b := impl.Bank{Terms: []impl.Term{term(impl.OpFalse, "Bool"), term(impl.OpNot, "Bool", 0), term(impl.OpTrue, "Bool"), term(impl.OpXor, "Bool", 1, 2)}}
	if c := checkClauses(t, b, []int{3, 2, 1, 0}, nil); !slices.Equal(c.Lits, []int{-1, 1, 1, -1}) || len(c.Clauses) != 5 {
		t.Errorf("%s", shortCnf(c))
	}
	named := parsed(t, "(declare-sort |(_ BitVec 4)| 0)(declare-sort |Bool 1| 0)(declare-const x |(_ BitVec 4)|)(declare-const y |Bool 1|)(assert (= x x))(assert (= y y))")
	if named.Err != impl.LangOk {
		t.Fatalf("%d at %d", named.Err, named.At)
	}
	if c := checkClauses(t, named.Script.Bank, boolTerms(named.Script.Bank), nil); c.Vars != 3 || len(c.Atoms) != 2 {
		t.Errorf("own sorts with odd names: %s", shortCnf(c))
	}
}

// wideBank has a chain of calls of 64 digits, which make calls*64 variables and no clause, and then Bool calls, a variable each.
// What is handed in stands behind them; the roots are its Bool terms.
func wideBank(t *testing.T, vars int, more impl.Bank) (b impl.Bank, roots []int) {
	t.Helper()
	wide := bitsOf(64)
	b = copied(more)
	b.Funs = append(b.Funs, impl.Fun{Name: "first", Sort: wide}, impl.Fun{Name: "next", Args: []string{wide}, Sort: wide}, impl.Fun{Name: "one", Args: []string{wide}, Sort: "Bool"})
	b.Terms = []impl.Term{constant("first", wide)}
	for left := vars - 65; left > 64; left -= 64 {
		b.Terms = append(b.Terms, impl.Term{Op: impl.OpApp, Sort: wide, Text: "next", Kids: []int{len(b.Terms) - 1}})
	}
	chain := len(b.Terms)
	for i := range vars - 1 - 64*chain {
		roots = append(roots, len(b.Terms))
		b.Terms = append(b.Terms, impl.Term{Op: impl.OpApp, Sort: "Bool", Text: "one", Kids: []int{chain - 1 - i}})
	}
	return behind(b, more, roots)
}

// behind puts the terms of a bank behind those of another that has its names; its Bool terms are roots, too.
func behind(b, more impl.Bank, roots []int) (impl.Bank, []int) {
	base := len(b.Terms)
	for _, x := range copied(more).Terms {
		for i := range x.Kids {
			x.Kids[i] += base
		}
		if x.Sort == "Bool" {
			roots = append(roots, len(b.Terms))
		}
		b.Terms = append(b.Terms, x)
	}
	return b, roots
}

// Exactly MaxVars variables, and one more.
func TestStage10ManyVars(t *testing.T) {
	for _, vars := range []int{impl.MaxVars - 1, impl.MaxVars, impl.MaxVars + 1, impl.MaxVars + 2, impl.MaxVars + 20} {
		b, roots := wideBank(t, vars, impl.Bank{})
		for _, lists := range [][2][]int{{roots, nil}, {nil, roots}, {roots[1:], roots[:2]}} {
			c := checkClauses(t, b, lists[0], lists[1])
			if c.Ok != (vars <= impl.MaxVars) || c.Ok && c.Vars != vars || !c.Ok && !isZeroCnf(c) {
				t.Errorf("%d variables: %s", vars, shortCnf(c))
			}
		}
	}
}

func isZeroCnf(c impl.Cnf) bool {
	return sameCnf(c, impl.Cnf{})
}

// The variables become too many at each place in what is made of a term.
func TestStage10FullOnTheWay(t *testing.T) {
	for _, text := range []string{"p", "(and p q)", "(xor p q)", "(ite p q r)", "(< x y)", "(= u v)", "(g u x)", "(= m n)", "(P2 m)", "(P2 (select a u))", "(P2 (bvadd m n))", "(P1 (bvudiv s t))", "(P2 (bvmul m n))", "(P3 (bvashr e f))", "(bvslt m n)"} {
		read := parsed(t, declaredWords+asserted(text))
		whole := checkClauses(t, read.Script.Bank, read.Script.Commands[0].Ids, nil).Vars - 1
		for spare := range whole + 2 {
			b, roots := wideBank(t, impl.MaxVars-spare, read.Script.Bank)
			c := checkClauses(t, b, roots, nil)
			if c.Ok != (whole <= spare) || c.Ok && c.Vars != impl.MaxVars-spare+whole {
				t.Errorf("%s with %d variables to spare of %d: %s", text, spare, whole, shortCnf(c))
			}
		}
	}
}

// Exactly MaxClauses clauses, and one more, by roots.
func TestStage10ManyRoots(t *testing.T) {
	b := parsed(t, declaredWords+asserted("(and p q)", "true")).Script.Bank
	and, yes := termAt(t, b, "(and p q)"), termAt(t, b, "true")
	for more := -2; more <= 2; more++ {
		for _, row := range []struct{ root, ahead int }{{and, 4}, {yes, 1}, {termAt(t, b, "q"), 1}} {
			roots := slices.Repeat([]int{row.root}, impl.MaxClauses-row.ahead+more)
			c := checkClauses(t, b, roots, nil)
			if c.Ok != (more <= 0) || c.Ok && len(c.Clauses) != impl.MaxClauses+more || !c.Ok && !isZeroCnf(c) {
				t.Errorf("%d roots: %s", len(roots), shortCnf(c))
			}
		}
	}
	many := slices.Repeat([]int{and, yes}, 3*impl.MaxClauses)
	if c := checkClauses(t, b, nil, many); !c.Ok || len(c.Clauses) != 4 {
		t.Errorf("shared terms have no clauses: %s", shortCnf(c))
	}
	if c := checkClauses(t, b, many, nil); !isZeroCnf(c) {
		t.Errorf("%s", shortCnf(c))
	}
}

// pairsBank has words of 64 digits and the exclusive ors of their pairs, 256 clauses each, then gates of Bools, of 3 or of 4
// clauses, till there are as many as are asked for. Calls that make no clause reach them.
func pairsBank(t *testing.T, clauses int, more impl.Bank) (b impl.Bank, shared []int) {
	t.Helper()
	wide := bitsOf(64)
	b = copied(more)
	b.Funs = append(b.Funs, impl.Fun{Name: "one", Args: []string{wide}, Sort: "Bool"})
	b.Terms = nil
	const words = 41
	for i := range words {
		name := "word" + strconv.Itoa(i)
		b.Funs = append(b.Funs, impl.Fun{Name: name, Sort: wide})
		b.Terms = append(b.Terms, constant(name, wide))
	}
	left := clauses - 1
	for i := range words {
		for j := range i {
			if left >= 256+9 {
				left -= 256
				b.Terms = append(b.Terms, term(impl.OpBvXor, wide, i, j))
				shared = append(shared, len(b.Terms))
				b.Terms = append(b.Terms, impl.Term{Op: impl.OpApp, Sort: "Bool", Text: "one", Kids: []int{len(b.Terms) - 1}})
			}
		}
	}
	for i := 0; left > 0; i++ {
		name := "bool" + strconv.Itoa(i)
		b.Funs = append(b.Funs, impl.Fun{Name: name, Sort: "Bool"})
		b.Terms = append(b.Terms, constant(name, "Bool"))
		shared = append(shared, len(b.Terms))
		if left%4 > 0 {
			left -= 3
			b.Terms = append(b.Terms, term(impl.OpAnd, "Bool", len(b.Terms)-1, shared[0]))
		} else {
			left -= 4
			b.Terms = append(b.Terms, term(impl.OpXor, "Bool", len(b.Terms)-1, shared[0]))
		}
	}
	return behind(b, more, shared)
}

// The clauses become too many at the last places in what is made of a term, with variables to spare.
func TestStage10FullOfClauses(t *testing.T) {
	for _, text := range []string{"(and p q)", "(xor p q)", "(ite p q r)", "(bvult s t)"} {
		read := parsed(t, declaredWords+asserted(text))
		whole := len(checkClauses(t, read.Script.Bank, nil, read.Script.Commands[0].Ids).Clauses) - 1
		for spare := whole - 2; spare <= whole; spare++ {
			b, shared := pairsBank(t, impl.MaxClauses-spare, read.Script.Bank)
			c := checkClauses(t, b, nil, shared)
			if c.Ok != (whole <= spare) || c.Ok && len(c.Clauses) != impl.MaxClauses || c.Vars > impl.MaxVars-5000 {
				t.Errorf("%s with %d clauses to spare of %d: %s", text, spare, whole, shortCnf(c))
			}
		}
	}
	b, shared := pairsBank(t, impl.MaxClauses-1, impl.Bank{})
	for roots := range 3 {
		if c := checkClauses(t, b, shared[:roots], shared); c.Ok != (roots < 2) || c.Ok && len(c.Clauses) != impl.MaxClauses-1+roots {
			t.Errorf("%d roots: %s", roots, shortCnf(c))
		}
	}
}

// Terms that are to be lowered first: none may be reached, from a root, from a shared term or from deep below; one that is not
// reached may be there.
func TestStage10ToBeLowered(t *testing.T) {
	for _, text := range []string{"(< (ite p x y) x)", "(= z (ite p z 1.0))", "(= u (ite p u v))", "(P2 (ite p m n))", "(= a (ite p a a))", "(not (= d (ite p d d)))", "(distinct x y)", "(distinct p q)", "(distinct m n m)", "(distinct u v)", "(distinct a a)", "(= (div x 2) 1)", "(< x (mod y 3))", "(< x (+ y (* 2 (mod (k y) 3))))", "(>= x y)", "(> x y)", "(>= z 1.0)", "(> z z)", "(g u (div x 2))", "(and p (or q (distinct u v)))", "(= (select d (mod x 2)) 1)", "(= d (store d x (div x 2)))", "(xor p (> x y))"} {
		read := parsed(t, declaredWords+asserted("p", text, "(< x y)"))
		if read.Err != impl.LangOk {
			t.Fatalf("%s: %d at %d", text, read.Err, read.At)
		}
		b := read.Script.Bank
		p, root, below := read.Script.Commands[0].Ids[0], read.Script.Commands[1].Ids[0], read.Script.Commands[2].Ids[0]
		for _, lists := range [][2][]int{{{root}, nil}, {nil, {root}}, {{p, root}, {below}}, {{p}, {below, root}}, {{root, p}, {root, p}}} {
			if c := checkClauses(t, b, lists[0], lists[1]); !isZeroCnf(c) {
				t.Errorf("%s: %s", text, shortCnf(c))
			}
		}
		if c := checkClauses(t, b, []int{p}, []int{below, p}); !c.Ok || c.Vars != 3 {
			t.Errorf("%s is not reached: %s", text, shortCnf(c))
		}
	}
	for _, text := range []string{"(ite p q r)", "(ite (ite p q r) (< x y) (= u v))", "(= (ite p q r) q)"} {
		if c, _, _ := clausesOf(t, declaredWords+asserted(text)); !c.Ok {
			t.Errorf("%s: %s", text, shortCnf(c))
		}
	}
}

// Banks that are not good, roots and shared terms that are none or of no Bool term.
func TestStage10WrongInputs(t *testing.T) {
	for _, b := range noBanks(t) {
		for _, ids := range [][]int{nil, {0}, {2, 3}, {-1}, {len(b.Terms) - 1}, {len(b.Terms)}} {
			if !isZeroCnf(checkClauses(t, b, ids, nil)) || !isZeroCnf(checkClauses(t, b, nil, ids)) {
				t.Errorf("%s has clauses", shortBank(b))
			}
		}
	}
	b := parsed(t, declaredWords+asserted("(and p q)", "(g u x)", "(P2 (bvadd m n))", "(= d (store d x y))", "(= (select a u) m)", "(<= z (to_real x))", "(= v u)")).Script.Bank
	bools := boolTerms(b)
	if c := checkClauses(t, b, bools, bools); !c.Ok {
		t.Fatal("Bool terms are roots")
	}
	few := bools[:3]
	for _, id := range append(upTo(len(b.Terms)), -1, -2, len(b.Terms), len(b.Terms)+1, 1<<62, 1<<63-1, -1<<63) {
		if slices.Contains(bools, id) {
			continue
		}
		for place := range len(few) + 1 {
			wrong := slices.Insert(slices.Clone(few), place, id)
			for _, lists := range [][2][]int{{wrong, nil}, {nil, wrong}, {wrong, few}, {few, wrong}, {wrong, wrong}} {
				if c := checkClauses(t, b, lists[0], lists[1]); !isZeroCnf(c) {
					t.Errorf("%d is taken: %s", id, shortCnf(c))
				}
			}
		}
	}
	for _, id := range []int{-1, 0, 1} {
		if !isZeroCnf(checkClauses(t, impl.Bank{}, []int{id}, nil)) || !isZeroCnf(checkClauses(t, impl.Bank{}, nil, []int{id})) {
			t.Errorf("%d of no terms", id)
		}
	}
	lowered, _ := lowerText(t, declaredMix+asserted("(= x (ite p y 3))"))
	if c := checkClauses(t, lowered.Bank, lowered.Roots, lowered.Shared); !c.Ok {
		t.Error("names that begin with a point are fine")
	}
}

// The lists of one answer share no memory with each other, nor with the answer of another call.
func TestStage10OwnMemory(t *testing.T) {
	read := parsed(t, declaredWords+asserted("(and p q)", "(P3 (concat s m))", "(P3 ((_ sign_extend 1) m))", "(P3 ((_ zero_extend 1) m))", "(P2 ((_ extract 1 0) m))", "(P1 ((_ extract 1 1) m))", "(P2 (bvnot m))", "(P2 (bvshl m #b00))", "(P2 (bvudiv m n))", "(P2 (bvurem m n))", "(P2 (bvadd m #b00))", "(P2 (bvsub m n))", "(P2 #b01)", "(g u x)", "(= m n)"))
	b := read.Script.Bank
	var roots []int
	for _, c := range read.Script.Commands {
		roots = append(roots, c.Ids...)
	}
	want := checkClauses(t, b, roots, roots[2:])
	lists := func(c *impl.Cnf) []*[]int {
		all := []*[]int{&c.Lits}
		for i := range c.Clauses {
			all = append(all, &c.Clauses[i])
		}
		for i := range c.Bits {
			all = append(all, &c.Bits[i])
		}
		return all
	}
	wanted := lists(&want)
	for i := range wanted {
		c := impl.Clauses(b, roots, roots[2:])
		list := lists(&c)[i]
		overwrite(*list)
		*list = *wanted[i]
		if !sameCnf(c, want) {
			t.Errorf("list %d is shared", i)
		}
	}
	if len(wanted) < 100 || len(want.Atoms) < 10 {
		t.Errorf("%d lists, %d atoms", len(wanted), len(want.Atoms))
	}
}
