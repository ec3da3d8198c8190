package tests

import (
	"math/rand"
	"slices"
	"strconv"
	"testing"

	"loop.example/g00007/impl"
)

// factsIn are what a model says of Bool terms that have a value in it.
func factsIn(values []string, bools []int) []impl.Fact {
	var facts []impl.Fact
	for _, id := range bools {
		if values[id] != "" {
			facts = append(facts, impl.Fact{Term: id, On: values[id] == "true"})
		}
	}
	return facts
}

// checkSo is the promise for a model: what is so in it does not clash; terms that are equal by it have one value.
func checkSo(t *testing.T, b impl.Bank, values []string, facts []impl.Fact) (joined int) {
	t.Helper()
	if core := impl.Clash(b, facts); len(core) > 0 {
		t.Fatalf("%s: %v is so in a model, and clashes by %v", shortBank(b), facts, core)
	}
	of := impl.Classes(b, facts)
	if len(of) != len(b.Terms) {
		t.Fatalf("%s: %d classes", shortBank(b), len(of))
	}
	for id := range of {
		if values[id] != values[of[id]] {
			t.Fatalf("%s, %v: terms %d and %d are equal, but are %s and %s", shortBank(b), facts, id, of[id], short(values[id]), short(values[of[id]]))
		}
		joined += oneOf(of[id] != id && b.Terms[id].Sort != "Bool")
	}
	return joined
}

// withEquations adds equations of drawn terms of one sort, those of one value more than others.
func withEquations(r *rand.Rand, b impl.Bank, values []string, n int) impl.Bank {
	h := heapOn(b)
	for range 40 * n {
		i, j := r.Intn(len(b.Terms)), r.Intn(len(b.Terms))
		if b.Terms[i].Sort == b.Terms[j].Sort && len(h.bank.Terms) < impl.MaxTerms && (values[i] == values[j] || r.Intn(8) == 0) {
			h.op(impl.OpEq, "Bool", i, j)
		}
	}
	return h.bank
}

// mixBank draws a bank of each kind that the tests of the layers below draw.
func mixBank(t *testing.T, r *rand.Rand) impl.Bank {
	switch r.Intn(4) {
	case 0:
		return drawWords(r, 5+r.Intn(40))
	case 1:
		return drawTold(r, 5+r.Intn(40))
	case 2:
		b := drawnBank(t)
		for range 10 {
			b = impl.AddTerm(b, drawRight(r, b)).Bank
			b = impl.AddTerm(b, drawCall(r, b)).Bank
		}
		return b
	}
	return impl.ParseScript((&scriptDraw{r: r}).script(8)).Script.Bank
}

// Drawn banks and models: all that a model says, in drawn orders, and parts of it.
func TestStage11SoInModels(t *testing.T) {
	r := rand.New(rand.NewSource(111))
	models, joined := 0, 0
	for range 250 {
		b := mixBank(t, r)
		m := drawModel(r, b)
		values := impl.Eval(b, m)
		if len(values) == 0 {
			continue
		}
		b = withEquations(r, b, values, 20)
		values = impl.Eval(b, m)
		facts := factsIn(values, boolTerms(b))
		r.Shuffle(len(facts), func(i, j int) { facts[i], facts[j] = facts[j], facts[i] })
		facts = facts[:min(len(facts), impl.MaxFacts)]
		joined += checkSo(t, b, values, facts)
		checkSo(t, b, values, facts[:r.Intn(len(facts)+1)])
		models++
	}
	if models < 150 || joined < 1000 {
		t.Errorf("%d models, %d terms that are equal to others", models, joined)
	}
}

// smallBank has x, y, z of an own sort, f and what f gives, an equation for each pair of these, and P with two of them.
func smallBank() (b impl.Bank, equations []int) {
	b = impl.NewBank()
	b.Sorts, b.Funs = []string{"U"}, []impl.Fun{{Name: "f", Args: []string{"U"}, Sort: "U"}, {Name: "P", Args: []string{"U", "U"}, Sort: "Bool"}}
	h := heapOn(b)
	var all []int
	for _, name := range []string{"x", "y", "z"} {
		h.bank.Funs = append(h.bank.Funs, impl.Fun{Name: name, Sort: "U"})
		all = append(all, h.add(constant(name, "U")))
	}
	for i := range 4 {
		all = append(all, h.add(impl.Term{Op: impl.OpApp, Sort: "U", Text: "f", Kids: []int{all[i]}}))
	}
	for i, x := range all {
		for _, y := range all[:i] {
			equations = append(equations, h.op(impl.OpEq, "Bool", y, x))
		}
	}
	for _, kids := range [][]int{{0, 1}, {1, 0}, {3, 3}, {4, 5}, {2, 6}} {
		equations = append(equations, h.add(impl.Term{Op: impl.OpApp, Sort: "Bool", Text: "P", Kids: []int{all[kids[0]], all[kids[1]]}}))
	}
	return h.bank, equations
}

// numberedModel is a model of smallBank with elements up to size; the digits of n say what is what.
func numberedModel(b impl.Bank, size, n int) impl.Model {
	digit := func(base int) int {
		least := n % base
		n /= base
		return least
	}
	var m impl.Model
	for _, f := range b.Funs {
		in := fixed(f.Name, impl.FirstValue(b.Sorts, f.Sort))
		rows := 1
		for range f.Args {
			rows *= size
		}
		for k := range rows {
			one := row("@" + strconv.Itoa(digit(size)))
			if f.Sort == "Bool" {
				one.Val = []string{"false", "true"}[digit(2)]
			}
			for place := range f.Args {
				one.Args = append(one.Args, "@"+strconv.Itoa([]int{k / size, k % size}[2-len(f.Args)+place]))
			}
			if len(f.Args) == 0 {
				in.Rest = one.Val
			} else if one.Val != in.Rest {
				in.Rows = append(in.Rows, one)
			}
		}
		m.Interps = append(m.Interps, in)
	}
	return m
}

// Models of a small bank with two elements and with three. Where each pair is told, terms are equal just where they have one value;
// with a fact that is not so, what clashes has a core.
func TestStage11AllModels(t *testing.T) {
	r := rand.New(rand.NewSource(112))
	b, equations := smallBank()
	joined, clashing := 0, 0
	for range 600 {
		m := numberedModel(b, 2+r.Intn(2), r.Int())
		values := impl.Eval(b, m)
		if len(values) == 0 {
			t.Fatalf("%+v: no good model", m)
		}
		facts := factsIn(values, equations)
		joined += checkSo(t, b, values, facts)
		of := impl.Classes(b, facts)
		for _, id := range equations {
			if kids := b.Terms[id].Kids; b.Terms[id].Op == impl.OpEq && (of[kids[0]] == of[kids[1]]) != (values[kids[0]] == values[kids[1]]) {
				t.Fatalf("%+v: each pair is told, %v", m, of)
			}
		}
		for range 4 {
			wrong := slices.Clone(facts)
			one := &wrong[r.Intn(len(wrong))]
			one.On = !one.On
			core := impl.Clash(b, wrong)
			mustBeCore(t, b, wrong, core)
			clashing += oneOf(len(core) > 0)
		}
	}
	if joined < 1000 || clashing < 1000 {
		t.Errorf("%d terms that are equal to others, %d rows that clash", joined, clashing)
	}
}

// All rows of up to three facts of a small bank, and drawn longer ones: Classes and Clash are those of the second reading, more
// facts make no fewer terms equal, and cores are cores.
func TestStage11AllRows(t *testing.T) {
	b := parsed(t, "(declare-sort U 0)(declare-const x U)(declare-const y U)(declare-const p Bool)(declare-fun f (U) U)(declare-fun P (U) Bool)"+asserted("(= x y)", "(= (f x) y)", "(= (f (f x)) x)", "(= (f y) (f x))", "(P x)", "(P (f y))", "(= p (P x))")).Script.Bank
	bools := boolTerms(b)
	var pool []impl.Fact
	for _, id := range bools {
		pool = append(pool, on(id), notOn(id))
	}
	clashing := 0
	for n := range len(pool) * len(pool) * len(pool) {
		facts := []impl.Fact{pool[n%len(pool)], pool[n/len(pool)%len(pool)], pool[n/len(pool)/len(pool)]}
		of, core := checkEqual(t, b, facts)
		mustBeWithin(t, impl.Classes(b, facts[:2]), of)
		mustBeWithin(t, impl.Classes(b, facts[1:]), of)
		clashing += oneOf(len(core) > 0)
	}
	r := rand.New(rand.NewSource(113))
	longest := 0
	for range 1500 {
		var facts []impl.Fact
		for range 4 + r.Intn(8) {
			facts = append(facts, pool[2*r.Intn(len(bools))+oneOf(r.Intn(4) == 0)])
		}
		of, core := checkEqual(t, b, facts)
		mustBeWithin(t, impl.Classes(b, facts[:r.Intn(len(facts))]), of)
		mustBeCore(t, b, facts, core)
		longest = max(longest, len(core))
	}
	if clashing < 500 || longest < 4 {
		t.Errorf("%d rows clash; the longest core has %d facts", clashing, longest)
	}
}

// Drawn facts of drawn banks: mostly what a model says, with some that are not so.
func TestStage11DrawnFacts(t *testing.T) {
	r := rand.New(rand.NewSource(114))
	clashing, long, told := 0, 0, 0
	for range 250 {
		b := mixBank(t, r)
		if len(b.Terms) == 0 {
			continue
		}
		values := impl.Eval(b, drawModel(r, b))
		if len(values) == 0 || r.Intn(3) == 0 {
			values = make([]string, len(b.Terms))
		}
		b = withEquations(r, b, values, 4)
		bools := boolTerms(b)
		values = impl.Eval(b, drawModel(r, b))
		var facts []impl.Fact
		for range r.Intn(40) {
			id := bools[r.Intn(len(bools))]
			facts = append(facts, impl.Fact{Term: id, On: values[id] == "true" != (r.Intn(5) == 0) || b.Terms[id].Op == impl.OpEq && r.Intn(2) == 0})
		}
		of, core := checkEqual(t, b, facts)
		for n := range facts {
			mustBeWithin(t, impl.Classes(b, slices.Delete(slices.Clone(facts), n, n+1)), of)
		}
		mustBeCore(t, b, facts, core)
		clashing += oneOf(len(core) > 0)
		long += oneOf(len(core) > 2)
		for id := range of {
			told += oneOf(of[id] != id && b.Terms[id].Sort != "Bool")
		}
	}
	if clashing < 60 || long < 15 || told < 300 {
		t.Errorf("%d rows of facts clash, %d by more than two of them; %d terms that are equal to others", clashing, long, told)
	}
}

// drawDeep draws many terms over few constants, equations of them that are On, and a few of equal terms that are not.
func drawDeep(r *rand.Rand, terms, equations int) (b impl.Bank, facts []impl.Fact) {
	h, of := drawnFrom(r, []string{"U", "Int", bitsOf(3), arrayOf("Int", "U")}, impl.Fun{Name: "f", Args: []string{"U"}, Sort: "U"}, impl.Fun{Name: "g", Args: []string{"U", "Int"}, Sort: "U"}, impl.Fun{Name: "n", Args: []string{"U"}, Sort: "Int"}, impl.Fun{Name: "w", Args: []string{bitsOf(3), "U"}, Sort: bitsOf(3)})
	some := func(sort string) int { // an early term rather than a late one
		id := of(sort)
		for range 5 {
			id = min(id, of(sort))
		}
		return id
	}
	for len(h.bank.Terms) < terms {
		switch r.Intn(8) {
		case 0:
			h.add(impl.Term{Op: impl.OpApp, Sort: "U", Text: "f", Kids: []int{of("U")}})
		case 1:
			h.add(impl.Term{Op: impl.OpApp, Sort: "U", Text: "g", Kids: []int{of("U"), some("Int")}})
		case 2:
			h.add(impl.Term{Op: impl.OpApp, Sort: "Int", Text: "n", Kids: []int{of("U")}})
		case 3:
			h.add(impl.Term{Op: impl.OpApp, Sort: bitsOf(3), Text: "w", Kids: []int{of(bitsOf(3)), some("U")}})
		case 4:
			h.op(impl.OpAdd, "Int", []int{some("Int"), some("Int"), of("Int")}[r.Intn(2):]...)
		case 5:
			h.op(impl.OpSelect, "U", some(arrayOf("Int", "U")), of("Int"))
		case 6:
			h.op(impl.OpStore, arrayOf("Int", "U"), some(arrayOf("Int", "U")), some("Int"), some("U"))
		case 7:
			h.op(impl.OpBvAnd+r.Intn(11), bitsOf(3), some(bitsOf(3)), some(bitsOf(3)))
		}
	}
	for range equations {
		sort := []string{"U", "Int", bitsOf(3), arrayOf("Int", "U")}[r.Intn(4)]
		facts = append(facts, on(h.op(impl.OpEq, "Bool", some(sort), some(sort))))
	}
	labels := plainEqual(h.bank, facts)
	for range 3 {
		id := of("U")
		for range 200 {
			if labels[id] != id {
				break
			}
			id = of("U")
		}
		twins := slices.DeleteFunc(upTo(len(labels)), func(other int) bool { return labels[other] != labels[id] || other == id && labels[id] != id })
		facts = append(facts, notOn(h.op(impl.OpEq, "Bool", id, twins[r.Intn(len(twins))])))
	}
	r.Shuffle(len(facts), func(i, j int) { facts[i], facts[j] = facts[j], facts[i] })
	return h.bank, facts
}

// Greater banks, in which terms become equal by others that did, and what is not On is so all the same.
func TestStage11DrawnDeep(t *testing.T) {
	r := rand.New(rand.NewSource(115))
	longest, followed, all := 0, 0, 0
	for i := range 60 {
		b, facts := drawDeep(r, 40+r.Intn(150)+i%10/9*600, 10+r.Intn(30))
		of, core := checkEqual(t, b, facts)
		mustBeWithin(t, impl.Classes(b, facts[:r.Intn(len(facts))]), of)
		mustBeCore(t, b, facts, core)
		if len(core) == 0 {
			t.Fatalf("%s, %v: no core", shortBank(b), facts)
		}
		longest = max(longest, len(core))
		all += len(core)
		for id := range of {
			followed += oneOf(of[id] != id && b.Terms[id].Sort != "Bool")
		}
	}
	if longest < 6 || all < 150 || followed < 1500 {
		t.Errorf("cores of up to %d facts, %d in all; %d terms that are equal to others", longest, all, followed)
	}
}

// What is lowered, and simplified then, with facts of its own Bool terms, as the search hands them in.
func TestStage11Lowered(t *testing.T) {
	r := rand.New(rand.NewSource(116))
	asked, clashing := 0, 0
	for range 120 {
		b := drawTold(r, 10+r.Intn(30))
		bools := boolTerms(b)
		l := impl.Lower(b, bools[max(0, len(bools)-3):])
		if !l.Ok || len(l.Bank.Terms) > 400 {
			continue
		}
		s := impl.Simplify(l.Bank)
		if !s.Ok {
			continue
		}
		bools = boolTerms(s.Bank)
		m := drawModel(r, s.Bank)
		values := impl.Eval(s.Bank, m)
		checkSo(t, s.Bank, values, factsIn(values, bools)[:min(len(bools), impl.MaxFacts)])
		var facts []impl.Fact
		for range 15 {
			facts = append(facts, impl.Fact{Term: bools[r.Intn(len(bools))], On: r.Intn(2) == 0})
		}
		_, core := checkEqual(t, s.Bank, facts)
		mustBeCore(t, s.Bank, facts, core)
		asked++
		clashing += oneOf(len(core) > 0)
	}
	if asked < 40 || clashing < 10 {
		t.Errorf("%d banks, %d rows of facts clash", asked, clashing)
	}
}
