package tests

import (
	"slices"
	"strconv"
	"testing"

	"loop.example/g00007/impl"
)

func on(id int) impl.Fact    { return impl.Fact{Term: id, On: true} }
func notOn(id int) impl.Fact { return impl.Fact{Term: id} }

// truthBanks have OpTrue and OpFalse, one of them, or none, ahead of the terms of b or behind them. at tells where its terms are.
func truthBanks(b impl.Bank) (banks []impl.Bank, at []int) {
	truths := []impl.Term{term(impl.OpTrue, "Bool"), term(impl.OpFalse, "Bool")}
	for _, ahead := range [][]impl.Term{nil, truths[:1], truths[1:], truths, {truths[1], truths[0]}} {
		bank, _ := behind(impl.Bank{Sorts: b.Sorts, Funs: b.Funs, Terms: slices.Clone(ahead)}, b, nil)
		banks, at = append(banks, bank), append(at, len(ahead))
		back := copied(b)
		back.Terms = append(back.Terms, ahead...)
		banks, at = append(banks, back), append(at, 0)
	}
	return banks, at
}

func hasOp(b impl.Bank, op int) bool {
	return slices.ContainsFunc(b.Terms, func(x impl.Term) bool { return x.Op == op })
}

// A term that is On is equal to OpTrue, one that is not to OpFalse, where these are terms of the bank, wherever they stand there.
func TestStage11Truths(t *testing.T) {
	banks, ats := truthBanks(bankWith(t, []string{"Bool", "Bool", "U", "U"}, term(impl.OpEq, "Bool", 0, 1), term(impl.OpEq, "Bool", 2, 3), term(impl.OpNot, "Bool", 0)))
	for i, b := range banks {
		p, q, pq, uv, not := ats[i], ats[i]+1, ats[i]+4, ats[i]+5, ats[i]+6
		hasTrue, hasFalse := hasOp(b, impl.OpTrue), hasOp(b, impl.OpFalse)
		same := func(x, y int, facts ...impl.Fact) bool {
			of, _ := checkEqual(t, b, facts)
			return of[x] == of[y]
		}
		core := func(facts ...impl.Fact) []int {
			_, core := checkEqual(t, b, facts)
			mustBeCore(t, b, facts, core)
			return core
		}
		if same(p, q, on(p), on(q)) != hasTrue || same(p, q, notOn(p), notOn(q)) != hasFalse || same(p, q, on(p), notOn(q)) || same(p, q, on(p)) {
			t.Errorf("%s: what is On, or not On, is equal", shortBank(b))
		}
		if same(p, uv, on(p), on(uv)) != hasTrue || same(not, uv, notOn(not), notOn(uv)) != hasFalse || !same(p, q, on(pq)) || !same(p+2, p+3, on(uv)) || same(p+2, p+3, notOn(uv)) {
			t.Errorf("%s: equations and opposites", shortBank(b))
		}
		for facts, clash := range map[[3]impl.Fact]bool{
			{on(p), notOn(q), on(pq)}:        hasTrue && hasFalse,
			{on(p), on(q), notOn(pq)}:        hasTrue,
			{notOn(p), notOn(q), notOn(pq)}:  hasFalse,
			{on(p), notOn(q), notOn(pq)}:     false,
			{on(not), notOn(not), notOn(pq)}: true,
			{on(uv), notOn(uv), notOn(pq)}:   true,
			{on(p), on(not), on(pq)}:         false,
		} {
			if got := core(facts[:]...); (len(got) > 0) != clash {
				t.Errorf("%s, %v: %v", shortBank(b), facts, got)
			}
		}
		for id, x := range b.Terms {
			if x.Op == impl.OpTrue && (len(core(notOn(id))) == 1) != hasFalse || x.Op == impl.OpFalse && (len(core(on(id))) == 1) != hasTrue {
				t.Errorf("%s: OpTrue that is not On, OpFalse that is", shortBank(b))
			}
			if x.Op == impl.OpTrue && len(core(on(id))) > 0 || x.Op == impl.OpFalse && len(core(notOn(id))) > 0 {
				t.Errorf("%s: OpTrue that is On, OpFalse that is not", shortBank(b))
			}
		}
	}
}

// An opKind is an operation with kids; those of sort "" are one numeral.
type opKind struct {
	op   int
	sort string
	text string
	a, b int
	kids []string
}

// opKinds are all operations with kids, each with all the sorts that it takes here.
func opKinds() []opKind {
	word, array := bitsOf(4), arrayOf("U", bitsOf(2))
	kinds := []opKind{
		{impl.OpNot, "Bool", "", 0, 0, []string{"Bool"}}, {impl.OpXor, "Bool", "", 0, 0, []string{"Bool", "Bool"}}, {impl.OpImplies, "Bool", "", 0, 0, []string{"Bool", "Bool"}},
		{impl.OpDiv, "Int", "", 0, 0, []string{"Int", ""}}, {impl.OpMod, "Int", "", 0, 0, []string{"Int", ""}}, {impl.OpToReal, "Real", "", 0, 0, []string{"Int"}},
		{impl.OpConcat, bitsOf(8), "", 0, 0, []string{word, word}}, {impl.OpConcat, bitsOf(6), "", 0, 0, []string{word, bitsOf(2)}}, {impl.OpExtract, bitsOf(2), "", 2, 1, []string{word}}, {impl.OpExtract, word, "", 3, 0, []string{word}},
		{impl.OpZext, bitsOf(6), "", 2, 0, []string{word}}, {impl.OpSext, bitsOf(6), "", 2, 0, []string{word}}, {impl.OpSelect, bitsOf(2), "", 0, 0, []string{array, "U"}}, {impl.OpStore, array, "", 0, 0, []string{array, "U", bitsOf(2)}},
		{impl.OpApp, "Bool", "f1", 0, 0, []string{"U"}}, {impl.OpApp, "Int", "f2", 0, 0, []string{"Int", "U"}}, {impl.OpApp, "U", "f3", 0, 0, []string{"U", word, "Real"}}, {impl.OpApp, word, "f5", 0, 0, []string{word, word, "U", "U", "Int"}},
	}
	for _, n := range []int{2, 3, impl.MaxKids} {
		for _, op := range []int{impl.OpAnd, impl.OpOr} {
			kinds = append(kinds, opKind{op, "Bool", "", 0, 0, slices.Repeat([]string{"Bool"}, n)})
		}
		for _, sort := range []string{"Int", "Real"} {
			kinds = append(kinds, opKind{impl.OpAdd, sort, "", 0, 0, slices.Repeat([]string{sort}, n)})
		}
		kinds = append(kinds, opKind{impl.OpDistinct, "Bool", "", 0, 0, slices.Repeat([]string{"U"}, n)})
	}
	for _, sort := range []string{"Bool", "Int", "Real", "U", word, array} {
		kinds = append(kinds, opKind{impl.OpIte, sort, "", 0, 0, []string{"Bool", sort, sort}}, opKind{impl.OpEq, "Bool", "", 0, 0, []string{sort, sort}})
	}
	for _, sort := range []string{"Int", "Real"} {
		kinds = append(kinds, opKind{impl.OpSub, sort, "", 0, 0, []string{sort, sort}}, opKind{impl.OpNeg, sort, "", 0, 0, []string{sort}}, opKind{impl.OpMul, sort, "", 0, 0, []string{"", sort}})
		for op := impl.OpLe; op <= impl.OpGt; op++ {
			kinds = append(kinds, opKind{op, "Bool", "", 0, 0, []string{sort, sort}})
		}
	}
	for op := impl.OpBvNot; op <= impl.OpBvSle; op++ {
		kids, sort := []string{word, word}, word
		if op <= impl.OpBvNeg {
			kids = kids[:1]
		}
		if op >= impl.OpBvUlt {
			sort = "Bool"
		}
		kinds = append(kinds, opKind{op, sort, "", 0, 0, kids})
	}
	return kinds
}

// twoOf is a bank with two terms of one kind, x and y, over constants of their own, and an equation for each pair of them.
func twoOf(t *testing.T, kind opKind) (b impl.Bank, x, y int, pairs []impl.Fact) {
	t.Helper()
	h := heapOn(impl.Bank{Sorts: valueOwn()})
	if kind.text != "" {
		h.bank.Funs = append(h.bank.Funs, impl.Fun{Name: kind.text, Args: kind.kids, Sort: kind.sort})
	}
	own := func(sort, name string) int {
		h.bank.Funs = append(h.bank.Funs, impl.Fun{Name: name, Sort: sort})
		return h.add(constant(name, sort))
	}
	first := impl.Term{Op: kind.op, Sort: kind.sort, Text: kind.text, A: kind.a, B: kind.b}
	second := first
	var equations [][2]int
	for place, sort := range kind.kids {
		if sort == "" {
			number := h.add(numeral(kind.sort, "7"))
			first.Kids, second.Kids = append(first.Kids, number), append(second.Kids, number)
			continue
		}
		pair := [2]int{own(sort, "x"+strconv.Itoa(place)), own(sort, "y"+strconv.Itoa(place))}
		first.Kids, second.Kids = append(first.Kids, pair[0]), append(second.Kids, pair[1])
		equations = append(equations, pair)
	}
	x, y = h.add(first), h.add(second)
	for _, pair := range equations {
		pairs = append(pairs, on(h.op(impl.OpEq, "Bool", pair[0], pair[1])))
	}
	if !impl.GoodBank(h.bank) {
		t.Fatalf("%+v: no good bank", kind)
	}
	return h.bank, x, y, pairs
}

// Of each operation, all kids equal make two terms equal, unless the document says that they do not; with one kid that is not,
// whichever it is, the terms are not.
func TestStage11EachOp(t *testing.T) {
	told := map[int]bool{}
	for _, kind := range opKinds() {
		b, x, y, pairs := twoOf(t, kind)
		told[kind.op] = true
		of, core := checkEqual(t, b, pairs)
		if (of[x] == of[y]) != hasRule(kind.op) || len(core) > 0 {
			t.Errorf("%+v: %v, %v", kind, of, core)
		}
		for n := range pairs {
			if of, _ := checkEqual(t, b, slices.Delete(slices.Clone(pairs), n, n+1)); of[x] == of[y] {
				t.Errorf("%+v: equal without kid %d", kind, n)
			}
		}
		same := heapOn(b)
		facts := append(slices.Clone(pairs), notOn(same.op(impl.OpEq, "Bool", y, x)))
		if _, core := checkEqual(t, same.bank, facts); (len(core) == len(facts)) != hasRule(kind.op) || len(core) > 0 != hasRule(kind.op) {
			t.Errorf("%+v: %v", kind, core)
		}
	}
	for op := impl.OpNot; op <= impl.OpStore; op++ {
		if !told[op] && op != impl.OpNum && op != impl.OpBits {
			t.Errorf("operation %d is not asked for", op)
		}
	}
}

// Terms that are not the same in Op, Text, A, B, Sort or the number of kids are not equal, though all their kids are.
func TestStage11Unlike(t *testing.T) {
	word := bitsOf(4)
	h := heapOn(impl.Bank{Sorts: valueOwn(), Funs: []impl.Fun{{Name: "f", Args: []string{word}, Sort: word}, {Name: "g", Args: []string{word}, Sort: word}, {Name: "fa", Args: []string{word}, Sort: word},
		{Name: "m", Args: []string{"Int", "Int"}, Sort: "Int"}, {Name: "n", Args: []string{"Int", "Int", "Int"}, Sort: "Int"}}})
	var firsts []int
	equations := [][2]int{}
	for _, sort := range []string{word, "Int", "Real"} {
		var pair [2]int
		for i := range pair {
			name := []string{"x", "y"}[i] + strconv.Itoa(len(equations))
			h.bank.Funs = append(h.bank.Funs, impl.Fun{Name: name, Sort: sort})
			pair[i] = h.add(constant(name, sort))
		}
		equations, firsts = append(equations, pair), append(firsts, pair[0])
	}
	x, number, real := firsts[0], firsts[1], firsts[2]
	terms := []impl.Term{{Op: impl.OpApp, Sort: word, Text: "f", Kids: []int{x}}, {Op: impl.OpApp, Sort: word, Text: "g", Kids: []int{x}}, {Op: impl.OpApp, Sort: word, Text: "fa", Kids: []int{x}},
		{Op: impl.OpApp, Sort: "Int", Text: "m", Kids: []int{number, number}}, {Op: impl.OpApp, Sort: "Int", Text: "n", Kids: []int{number, number, number}}}
	for high := range 4 {
		for low := range high + 1 {
			terms = append(terms, impl.Term{Op: impl.OpExtract, Sort: bitsOf(high - low + 1), A: high, B: low, Kids: []int{x}})
		}
	}
	for more := 1; more <= 5; more++ {
		terms = append(terms, impl.Term{Op: impl.OpZext, Sort: bitsOf(4 + more), A: more, Kids: []int{x}}, impl.Term{Op: impl.OpSext, Sort: bitsOf(4 + more), A: more, Kids: []int{x}})
	}
	for n := 2; n <= impl.MaxKids; n++ {
		terms = append(terms, term(impl.OpAdd, "Int", slices.Repeat([]int{number}, n)...), term(impl.OpAdd, "Real", slices.Repeat([]int{real}, n)...))
	}
	for op := impl.OpBvAnd; op <= impl.OpBvSle; op++ {
		sort := word
		if op >= impl.OpBvUlt {
			sort = "Bool"
		}
		terms = append(terms, term(op, sort, x, x))
	}
	var ids []int
	for _, one := range terms {
		twin := one
		twin.Kids = slices.Clone(one.Kids)
		for i := range twin.Kids {
			twin.Kids[i]++
		}
		ids = append(ids, h.add(one), h.add(twin))
	}
	var facts []impl.Fact
	for _, pair := range equations {
		facts = append(facts, on(h.op(impl.OpEq, "Bool", pair[0], pair[1])))
	}
	of, _ := checkEqual(t, h.bank, facts)
	for i, id := range ids {
		if want := ids[i-i%2]; of[id] != want {
			t.Errorf("term %d, %+v, is equal to %d, want %d", id, h.bank.Terms[id], of[id], want)
		}
	}
}

// Banks without terms, and rows without facts.
func TestStage11Nothing(t *testing.T) {
	for _, none := range [][]impl.Fact{nil, {}} {
		for _, b := range []impl.Bank{{}, {Sorts: []string{"U"}}, {Terms: []impl.Term{}}, impl.NewBank(), manyNames(150, 150), bankMix(t), mixedBank()} {
			checkAnswers(t, b, none, upTo(len(b.Terms)), nil)
		}
		full := manyTerms(impl.MaxTerms)
		checkAnswers(t, full, none, upTo(len(full.Terms)), nil)
	}
	for _, id := range []int{-1, 0, 1} {
		checkAnswers(t, impl.Bank{}, []impl.Fact{on(id)}, nil, nil)
	}
}

// chainBank has the sort U, its function f, x, f of x, f of that and so on: terms 2 to 2+deep.
func chainBank(deep int) *termHeap {
	b := impl.NewBank()
	b.Sorts, b.Funs = []string{"U"}, []impl.Fun{{Name: "f", Args: []string{"U"}, Sort: "U"}, {Name: "x", Sort: "U"}}
	h := heapOn(b)
	last := h.add(constant("x", "U"))
	for range deep {
		last = h.add(impl.Term{Op: impl.OpApp, Sort: "U", Text: "f", Kids: []int{last}})
	}
	return h
}

// What follows of what follows: where f so often is x, and f so often, f is x as often as their greatest common divisor says.
func TestStage11LongRows(t *testing.T) {
	const deep = 700
	for _, steps := range [][2]int{{1, 1}, {2, 2}, {3, 5}, {12, 18}, {18, 12}, {6, 12}, {12, 6}, {70, 9}, {377, 233}, {deep, deep - 1}, {deep, deep / 2}} {
		h := chainBank(deep)
		facts := []impl.Fact{on(h.op(impl.OpEq, "Bool", 2+steps[0], 2)), on(h.op(impl.OpEq, "Bool", 2, 2+steps[1]))}
		divisor := steps[0]
		for rest := steps[1]; rest > 0; {
			divisor, rest = rest, divisor%rest
		}
		want := make([]int, len(h.bank.Terms)) // the equations are On, and equal to OpTrue
		want[1] = 1
		for id := 2; id <= 2+deep; id++ {
			want[id] = 2 + (id-2)%divisor
		}
		checkAnswers(t, h.bank, facts, want, nil)
		low := deep % divisor
		facts = append(facts, notOn(h.op(impl.OpEq, "Bool", 2+low, 2+deep)))
		core := []int{0, 1, 2}
		switch {
		case low == deep%steps[1]:
			core = []int{1, 2}
		case low == deep%steps[0]:
			core = []int{0, 2}
		}
		checkAnswers(t, h.bank, facts, append(want, 1), core)
	}
}

// Exactly MaxFacts facts, which are all needed: a row of constants, each equal to the next, whose ends are not. One fact more.
func TestStage11MaxFacts(t *testing.T) {
	h := heapOn(impl.NewBank())
	for i := range impl.MaxNames {
		h.bank.Funs = append(h.bank.Funs, impl.Fun{Name: "c" + strconv.Itoa(i), Sort: "Int"})
		h.add(constant("c"+strconv.Itoa(i), "Int"))
	}
	var facts []impl.Fact
	for i := range impl.MaxNames - 1 {
		facts = append(facts, on(h.op(impl.OpEq, "Bool", 2+i, 3+i)))
	}
	facts = append(facts, notOn(h.op(impl.OpEq, "Bool", 2+impl.MaxNames-1, 2)))
	if len(facts) != impl.MaxFacts {
		t.Fatalf("%d facts", len(facts))
	}
	want := make([]int, len(h.bank.Terms))
	for id := range impl.MaxNames {
		want[2+id] = 2
	}
	want[1], want[len(want)-1] = 1, 1
	checkAnswers(t, h.bank, facts, want, upTo(impl.MaxFacts))
	for _, more := range []impl.Fact{facts[0], facts[impl.MaxFacts-1], on(0), notOn(1)} {
		for _, place := range []int{0, 150, impl.MaxFacts} {
			checkAnswers(t, h.bank, slices.Insert(slices.Clone(facts), place, more), nil, nil)
		}
	}
	none, truths := upTo(len(want)), append([]int{0, 0}, upTo(len(want))[2:]...)
	checkAnswers(t, h.bank, slices.Repeat([]impl.Fact{on(0)}, impl.MaxFacts), none, nil)
	checkAnswers(t, h.bank, slices.Repeat([]impl.Fact{on(1)}, impl.MaxFacts), truths, []int{impl.MaxFacts - 1})
	checkAnswers(t, h.bank, append(slices.Repeat([]impl.Fact{on(0)}, impl.MaxFacts-1), on(1)), truths, []int{impl.MaxFacts - 1})
	checkAnswers(t, h.bank, append([]impl.Fact{on(1)}, slices.Repeat([]impl.Fact{on(0)}, impl.MaxFacts-1)...), truths, []int{0})
	for _, n := range []int{1, 2, 9 * impl.MaxFacts} {
		checkAnswers(t, h.bank, slices.Repeat([]impl.Fact{on(0)}, impl.MaxFacts+n), nil, nil)
		checkAnswers(t, h.bank, slices.Repeat([]impl.Fact{on(1)}, impl.MaxFacts+n), nil, nil)
		checkAnswers(t, impl.Bank{}, make([]impl.Fact, impl.MaxFacts+n), nil, nil)
	}
}

// MaxTerms terms, one within another, over a row of constants that the facts make equal one by one, and not all in one order.
func TestStage11FullBank(t *testing.T) {
	const constants, deep = 100, 13
	for _, way := range []int{1, 37, 99} {
		h := heapOn(impl.NewBank())
		h.bank.Sorts = []string{"U"}
		h.bank.Funs = []impl.Fun{{Name: "f", Args: []string{"U"}, Sort: "U"}, {Name: "g", Args: []string{"U", "U"}, Sort: "U"}}
		var rows [constants][]int
		for i := range rows {
			h.bank.Funs = append(h.bank.Funs, impl.Fun{Name: "c" + strconv.Itoa(i), Sort: "U"})
			rows[i] = []int{h.add(constant("c"+strconv.Itoa(i), "U"))}
		}
		for level := range deep {
			for i := range rows {
				last := rows[i][len(rows[i])-1]
				rows[i] = append(rows[i], h.add(impl.Term{Op: impl.OpApp, Sort: "U", Text: "f", Kids: []int{last}}), h.add(impl.Term{Op: impl.OpApp, Sort: "U", Text: "g", Kids: []int{last, rows[i][level]}}))
			}
		}
		var facts []impl.Fact
		for i := range constants - 1 {
			facts = append(facts, on(h.op(impl.OpEq, "Bool", rows[i*way%constants][0], rows[(i+1)*way%constants][0])))
		}
		want := make([]int, len(h.bank.Terms))
		want[1] = 1
		for _, row := range rows {
			for n, id := range row {
				want[id] = rows[0][n]
			}
		}
		checkAnswers(t, h.bank, facts, want, nil)
		from, to := rows[0][2*deep], rows[(constants-1)*way%constants][2*deep]
		facts = append(facts, notOn(h.op(impl.OpEq, "Bool", from, to)))
		for len(h.bank.Terms) < impl.MaxTerms {
			h.op(impl.OpNot, "Bool", len(h.bank.Terms)-1)
		}
		want = append(append(want, 1), upTo(len(h.bank.Terms))[len(want)+1:]...)
		checkAnswers(t, h.bank, facts, want, upTo(len(facts)))
	}
}

// Classes' least index is that of the whole class, whichever facts make it, in whichever order.
func TestStage11Least(t *testing.T) {
	h := heapOn(bankWith(t, slices.Repeat([]string{"U"}, 6)))
	var equations []int
	for i := range 6 {
		for j := range 6 {
			equations = append(equations, h.op(impl.OpEq, "Bool", i, j))
		}
	}
	for _, order := range orders(6) {
		var facts []impl.Fact
		for i := range 5 {
			facts = append(facts, on(equations[6*order[i]+order[i+1]]))
			of := impl.Classes(h.bank, facts)
			for _, id := range order[:i+2] {
				if least := slices.Min(order[:i+2]); of[id] != least {
					t.Fatalf("%v: %d is in the class of %d, want %d", facts, id, of[id], least)
				}
			}
			for _, id := range order[i+2:] {
				if of[id] != id {
					t.Fatalf("%v: %d is in the class of %d", facts, id, of[id])
				}
			}
		}
	}
}

// Banks that are not good; facts of no term, and of terms that are no Bools; at each place, beside others that clash or not.
func TestStage11WrongInputs(t *testing.T) {
	for _, b := range noBanks(t) {
		for _, facts := range [][]impl.Fact{nil, {on(0)}, {on(1)}, {on(0), notOn(0)}, {on(-1)}, {notOn(len(b.Terms))}, {on(len(b.Terms) - 1)}} {
			checkAnswers(t, b, facts, nil, nil)
		}
	}
	b, good := factsOf(t, declaredEqual, []string{"(= x y)", "(P x)", "no (P y)"}, []string{"(f x)", "1", "s", "#b01", "(select a x)", "a", "(g u x)", "(ite p x y)"})
	bools := boolTerms(b)
	for _, id := range append(upTo(len(b.Terms)), -1, -2, len(b.Terms), len(b.Terms)+1, 1<<62, 1<<63-1, -1<<63) {
		isBool := slices.Contains(bools, id)
		for place := range len(good) + 1 {
			for _, fact := range []impl.Fact{on(id), notOn(id)} {
				facts := slices.Insert(slices.Clone(good), place, fact)
				of, core := checkEqual(t, b, facts)
				if (len(of) > 0) != isBool || (len(core) > 0) != isBool {
					t.Errorf("%v: %v, %v", facts, of, core)
				}
			}
		}
	}
	lowered, _ := lowerText(t, declaredMix+asserted("(= x (ite p y 3))"))
	if of, _ := checkEqual(t, lowered.Bank, []impl.Fact{on(boolTerms(lowered.Bank)[2])}); len(of) == 0 {
		t.Error("names that begin with a point are fine")
	}
}
