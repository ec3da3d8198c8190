package tests

import (
	"cmp"
	"math/big"
	"slices"
	"testing"

	"loop.example/g00007/impl"
)

// The signatures, the types and the limits that the document gives: a change of one is no longer built.
var (
	_ func(impl.Bank, []impl.Fact) impl.RowSet             = impl.RowsOf
	_ func(impl.Bank, []int, []int, []int, int) impl.Found = impl.Search
	_                                                      = struct {
		Kind  int
		Lits  []int
		Chain []int
		Tree  []impl.TreeNode
	}(impl.Lemma{})
	_ = struct {
		Status int
		Steps  int
		Values []bool
		Cols   []int
		Vals   []string
		Core   []int
		Trace  []impl.Lemma
	}(impl.Found{})
	_ = struct {
		Ok    bool
		Cols  []int
		Whole []bool
		Rows  []impl.LinRow
	}(impl.RowSet{})
	_ = [1]int{}[impl.KeepMax-100] + [1]int{}[impl.MaxSteps-1000000] + [1]int{}[impl.LemEqual-1] + [1]int{}[impl.LemLinear-2] + [1]int{}[impl.LemChain-3]
	_ = [1]int{}[impl.SearchBad] + [1]int{}[impl.SearchSat-1] + [1]int{}[impl.SearchUnsat-2] + [1]int{}[impl.SearchSteps-3] + [1]int{}[impl.SearchNodes-4] + [1]int{}[impl.SearchSize-5]
)

// plainSide adds to d, for a side, often times what LinearOf says of it; the term -1 stands for the Const.
func plainSide(t *testing.T, b impl.Bank, d map[int]*big.Rat, side int, often *big.Rat) bool {
	t.Helper()
	sum := impl.LinearOf(b, side)
	if !sum.Ok {
		return false
	}
	for _, mono := range append(sum.Monos, impl.Mono{Term: -1, Coef: sum.Const}) {
		coef := new(big.Rat).Mul(often, ratOf(t, mono.Coef))
		if mono.Term >= 0 && b.Terms[mono.Term].Op == impl.OpToReal {
			if !plainSide(t, b, d, b.Terms[mono.Term].Kids[0], coef) {
				return false
			}
			continue
		}
		if d[mono.Term] == nil {
			d[mono.Term] = new(big.Rat)
		}
		d[mono.Term].Add(d[mono.Term], coef)
	}
	return true
}

// plainRowsOf is RowsOf, written a second time.
func plainRowsOf(t *testing.T, b impl.Bank, facts []impl.Fact) impl.RowSet {
	t.Helper()
	if !impl.GoodBank(b) || slices.ContainsFunc(facts, func(f impl.Fact) bool { return f.Term < 0 || f.Term >= len(b.Terms) || b.Terms[f.Term].Sort != "Bool" }) {
		return impl.RowSet{}
	}
	set := impl.RowSet{Ok: true}
	var sums []map[int]*big.Rat
	for _, f := range facts {
		x := b.Terms[f.Term]
		if x.Op != impl.OpLe && x.Op != impl.OpLt {
			continue
		}
		one := big.NewRat(int64(2*oneOf(f.On)-1), 1)
		d := map[int]*big.Rat{-1: new(big.Rat)}
		if !plainSide(t, b, d, x.Kids[0], one) || !plainSide(t, b, d, x.Kids[1], new(big.Rat).Neg(one)) {
			return impl.RowSet{}
		}
		for term, coef := range d {
			if term >= 0 && coef.Sign() != 0 {
				set.Cols = append(set.Cols, term)
			}
		}
		sums = append(sums, d)
		set.Rows = append(set.Rows, impl.LinRow{Strict: x.Op == impl.OpLt == f.On})
	}
	slices.Sort(set.Cols)
	set.Cols = slices.Compact(set.Cols)
	for _, term := range set.Cols {
		set.Whole = append(set.Whole, b.Terms[term].Sort == "Int")
	}
	for i, d := range sums {
		scale := wholeScale(d)
		text := func(n *big.Rat) string { return new(big.Rat).Mul(n, scale).RatString() }
		set.Rows[i].Bound = text(new(big.Rat).Neg(d[-1]))
		for _, term := range set.Cols {
			coef := "0"
			if d[term] != nil {
				coef = text(d[term])
			}
			set.Rows[i].Coefs = append(set.Rows[i].Coefs, coef)
		}
	}
	if !arePlainRows(len(set.Cols), set.Rows) {
		return impl.RowSet{}
	}
	return set
}

// wholeScale is the least whole number above 0 that makes the numbers of a sum whole.
func wholeScale(d map[int]*big.Rat) *big.Rat {
	scale := big.NewInt(1)
	for _, n := range d {
		common := new(big.Int).GCD(nil, nil, scale, n.Denom())
		scale.Mul(scale, new(big.Int).Quo(n.Denom(), common))
	}
	return new(big.Rat).SetInt(scale)
}

func sameRowSet(a, b impl.RowSet) bool {
	return a.Ok == b.Ok && slices.Equal(a.Cols, b.Cols) && slices.Equal(a.Whole, b.Whole) && sameRows(a.Rows, b.Rows)
}

// checkRowsOf holds RowsOf against its second reading; what is handed in is as before, and the answer is of its own memory.
func checkRowsOf(t *testing.T, b impl.Bank, facts []impl.Fact) impl.RowSet {
	t.Helper()
	want := plainRowsOf(t, b, facts)
	kept, keptFacts := copied(b), slices.Clone(facts)
	answers := [2]impl.RowSet{impl.RowsOf(b, facts), impl.RowsOf(b, facts)}
	for _, got := range answers {
		if !sameRowSet(got, want) {
			t.Fatalf("%s, %v: RowsOf %v, want %v", shortBank(b), facts, got, want)
		}
		for i := range got.Rows {
			if !slices.Equal(got.Rows[i].Coefs, want.Rows[i].Coefs) {
				t.Fatal("rows share memory")
			}
			overwriteTexts(got.Rows[i].Coefs)
		}
		overwrite(got.Cols)
		clear(got.Whole)
		clear(got.Rows)
	}
	if !sameBank(b, kept) || !slices.Equal(facts, keptFacts) {
		t.Fatal("what was handed in is changed, or an answer shares memory with it")
	}
	return want
}

// A plainEnd is a status with which a plain search gives up what it is doing.
type plainEnd int

// A plainSearch is what the chapter says of Search, a second time: each round looks at all clauses, and all is worked out anew. The
// variables' lists have a place for each number. What is met on the way is counted by name, so that tests can ask for it.
type plainSearch struct {
	t        *testing.T
	b        impl.Bank
	cnf      impl.Cnf
	asks     []int
	limit    int
	clauses  [][]int
	dropped  []bool
	value    assignment
	phase    []bool
	activity []int
	level    []int
	reason   []int
	trail    []int
	decided  int
	count    [3]int // conflicts, restarts, conflicts since the last of these
	found    impl.Found
	lemmas   []impl.Lemma
	met      map[string]int
}

func newPlainSearch(t *testing.T, b impl.Bank, cnf impl.Cnf, limit int) *plainSearch {
	n := cnf.Vars + 1
	p := &plainSearch{t: t, b: b, cnf: cnf, limit: limit, clauses: slices.Clone(cnf.Clauses), dropped: make([]bool, len(cnf.Clauses)), met: map[string]int{}}
	p.value, p.phase, p.activity, p.level, p.reason = make(assignment, n), make([]bool, n), make([]int, n), make([]int, n), make([]int, n)
	return p
}

func plainFound(t *testing.T, b impl.Bank, roots, asks, shared []int, steps int) (impl.Found, map[string]int) {
	t.Helper()
	cnf := impl.Clauses(b, roots, append(slices.Clone(shared), asks...))
	if !cnf.Ok || steps < 1 || steps > 1000000 {
		return impl.Found{}, nil
	}
	p := newPlainSearch(t, b, cnf, steps)
	for _, ask := range asks {
		p.asks = append(p.asks, cnf.Lits[ask])
	}
	for second, lit := range p.asks {
		if first := slices.Index(p.asks[:second], -lit); first >= 0 {
			return impl.Found{Status: impl.SearchUnsat, Core: []int{first, second}}, map[string]int{"opposite asks": 1}
		}
	}
	p.goOn()
	return p.found, p.met
}

// goOn is the rounds, till a step, an end or a limit gives up.
func (p *plainSearch) goOn() {
	defer func() {
		if fault := recover(); fault != nil {
			status, isEnd := fault.(plainEnd)
			if !isEnd {
				panic(fault)
			}
			p.found.Status = int(status)
		}
	}()
	for {
		if !p.clauseRound() && !p.equationRound() && !p.rowRound() && !p.askRound() && !p.freeRound() {
			p.wholeRound()
		}
	}
}

func (p *plainSearch) step() {
	if p.found.Steps == p.limit {
		panic(plainEnd(impl.SearchSteps))
	}
	p.found.Steps++
}

func (p *plainSearch) is(lit int) int {
	return truth(p.value, lit)
}

func varOf(lit int) int {
	return max(lit, -lit)
}

func byVariable(a, b int) int {
	return cmp.Compare(varOf(a), varOf(b))
}

func (p *plainSearch) become(lit, reason int) {
	set(p.value, lit, 1)
	p.trail = append(p.trail, lit)
	p.level[varOf(lit)], p.reason[varOf(lit)] = p.decided, reason
}

func (p *plainSearch) decide(lit int) bool {
	p.step()
	p.decided++
	p.become(lit, -1)
	return true
}

// clauseRound is the first of the round: clauses that are false or units.
func (p *plainSearch) clauseRound() bool {
	for number, clause := range p.clauses {
		if p.dropped[number] {
			continue
		}
		open, last := 0, 0
		for _, lit := range clause {
			switch p.is(lit) {
			case 1:
				open = 2
			case 0:
				open++
				last = lit
			}
			if open > 1 {
				break
			}
		}
		switch open {
		case 0:
			p.conflict(number)
			return true
		case 1:
			p.step()
			p.become(last, number)
			return true
		}
	}
	return false
}

// facts are those of the trail, with the literal of each.
func (p *plainSearch) facts() (facts []impl.Fact, lits []int) {
	for _, lit := range p.trail {
		facts = append(facts, p.factsFor(lit)...)
		for len(lits) < len(facts) {
			lits = append(lits, lit)
		}
	}
	return facts, lits
}

// factsFor are the facts of a literal that is true.
func (p *plainSearch) factsFor(lit int) (facts []impl.Fact) {
	for _, atom := range p.cnf.Atoms {
		if varOf(atom.Lit) == varOf(lit) {
			facts = append(facts, impl.Fact{Term: atom.Term, On: atom.Lit == lit})
		}
	}
	return facts
}

func (p *plainSearch) factsBehind(lemma []int) (facts []impl.Fact) {
	for _, lit := range lemma {
		facts = append(facts, p.factsFor(-lit)...)
	}
	return facts
}

// lemmaOf has the opposites of literals, by their variables, each once.
func lemmaOf(lits []int) (lemma []int) {
	for _, lit := range lits {
		if !slices.Contains(lemma, -lit) {
			lemma = append(lemma, -lit)
		}
	}
	slices.SortFunc(lemma, byVariable)
	return lemma
}

func (p *plainSearch) addLemma(lemma impl.Lemma) int {
	p.lemmas = append(p.lemmas, lemma)
	p.clauses = append(p.clauses, lemma.Lits)
	p.dropped = append(p.dropped, false)
	return len(p.clauses) - 1
}

func (p *plainSearch) equationRound() bool {
	facts, lits := p.facts()
	if len(facts) > 300 {
		p.met["too many facts"]++
		panic(plainEnd(impl.SearchSize))
	}
	core := impl.Clash(p.b, facts)
	if len(core) == 0 {
		return false
	}
	p.step()
	var some []int
	for _, n := range core {
		some = append(some, lits[n])
	}
	lemma := lemmaOf(some)
	p.met["equal"]++
	p.met["equal, two facts of one variable"] += oneOf(len(lemma) < len(core))
	p.conflict(p.addLemma(impl.Lemma{Kind: impl.LemEqual, Lits: lemma}))
	return true
}

func (p *plainSearch) rowsOf(facts []impl.Fact) impl.RowSet {
	set := impl.RowsOf(p.b, facts)
	if !set.Ok {
		p.met["no rows"]++
		panic(plainEnd(impl.SearchSize))
	}
	return set
}

// ofRows are the facts that have rows, with their literals.
func (p *plainSearch) ofRows() (facts []impl.Fact, lits []int) {
	all, allLits := p.facts()
	for i, f := range all {
		if op := p.b.Terms[f.Term].Op; op == impl.OpLe || op == impl.OpLt {
			facts, lits = append(facts, f), append(lits, allLits[i])
		}
	}
	return facts, lits
}

func (p *plainSearch) rowRound() bool {
	facts, lits := p.ofRows()
	set := p.rowsOf(facts)
	core := impl.Infeasible(len(set.Cols), impl.Tighten(len(set.Cols), set.Whole, set.Rows))
	if len(core) == 0 {
		return false
	}
	p.step()
	var some []int
	for _, n := range core {
		some = append(some, lits[n])
	}
	lemma := lemmaOf(some)
	set = p.rowsOf(p.factsBehind(lemma))
	leaf := impl.TreeNode{Col: -1, Mult: impl.Farkas(len(set.Cols), impl.Tighten(len(set.Cols), set.Whole, set.Rows))}
	p.met["rows"]++
	p.met["rows, another order"] += oneOf(!slices.Equal(lemma, against(some)))
	p.conflict(p.addLemma(impl.Lemma{Kind: impl.LemLinear, Lits: lemma, Tree: []impl.TreeNode{leaf}}))
	return true
}

func (p *plainSearch) askRound() bool {
	for _, lit := range p.asks {
		if p.is(lit) == 0 {
			return p.decide(lit)
		}
		if p.is(lit) < 0 {
			p.endAtAsk(lit)
		}
	}
	return false
}

func (p *plainSearch) freeRound() bool {
	best := 0
	for v := 1; v < len(p.value); v++ {
		if p.value[v] == 0 && (best == 0 || p.activity[v] > p.activity[best]) {
			best = v
		}
	}
	if best == 0 {
		return false
	}
	p.met["decided by activity"] += oneOf(p.activity[best] > 0)
	p.met["decided to a phase that is true"] += oneOf(p.phase[best])
	if p.phase[best] {
		return p.decide(best)
	}
	return p.decide(-best)
}

func (p *plainSearch) solved(facts []impl.Fact) (impl.RowSet, impl.Whole) {
	set := p.rowsOf(facts)
	return set, impl.SolveWhole(len(set.Cols), set.Whole, set.Rows, 150)
}

func (p *plainSearch) wholeRound() {
	facts, lits := p.ofRows()
	set, whole := p.solved(facts)
	switch whole.Status {
	case impl.WholeTired:
		panic(plainEnd(impl.SearchNodes))
	case impl.WholeYes:
		for _, value := range p.value[1:] {
			p.found.Values = append(p.found.Values, value > 0)
		}
		p.found.Cols, p.found.Vals = set.Cols, whole.Vals
		panic(plainEnd(impl.SearchSat))
	}
	p.step()
	p.met["whole"]++
	for i := 0; i < len(facts); {
		others := slices.Delete(slices.Clone(facts), i, i+1)
		if _, less := p.solved(others); less.Status != impl.WholeNone {
			i++
			continue
		}
		facts, lits = others, slices.Delete(lits, i, i+1)
		p.met["whole, left out"]++
	}
	lemma := lemmaOf(lits)
	p.met["whole, another order"] += oneOf(!slices.Equal(lemma, against(lits)))
	_, whole = p.solved(p.factsBehind(lemma))
	p.conflict(p.addLemma(impl.Lemma{Kind: impl.LemLinear, Lits: lemma, Tree: whole.Tree}))
}

// lastOf is the literal of a clause that became false last, of those that are meant; 0 where there is none.
func (p *plainSearch) lastOf(clause []int, isMeant func(lit int) bool) int {
	for i := len(p.trail) - 1; i >= 0; i-- {
		if lit := -p.trail[i]; slices.Contains(clause, lit) && isMeant(lit) {
			return lit
		}
	}
	return 0
}

// resolvedAt is a clause without a literal, and the other literals of the reason for which that is false.
func (p *plainSearch) resolvedAt(clause []int, lit int) []int {
	var both []int
	for _, other := range slices.Concat(clause, p.clauses[p.reason[varOf(lit)]]) {
		if varOf(other) != varOf(lit) && !slices.Contains(both, other) {
			both = append(both, other)
		}
	}
	return both
}

func (p *plainSearch) levelsOf(clause []int) (levels []int) {
	for _, lit := range clause {
		levels = append(levels, p.level[varOf(lit)])
	}
	slices.Sort(levels)
	slices.Reverse(levels)
	return levels
}

// countOf is how often a number is in a list.
func countOf(list []int, n int) (count int) {
	for _, x := range list {
		count += oneOf(x == n)
	}
	return count
}

func anyLit(int) bool { return true }

func (p *plainSearch) conflict(number int) {
	p.step()
	c, chain := slices.Clone(p.clauses[number]), []int{number}
	top := p.levelsOf(c)[0]
	if top == 0 {
		p.met["end at level 0"]++
		p.met["end at level 0, decided"] += oneOf(p.decided > 0)
		p.endWith(c, chain, anyLit)
	}
	p.met["top below"] += oneOf(top < p.decided)
	for countOf(p.levelsOf(c), top) > 1 {
		last := p.lastOf(c, anyLit)
		chain = append(chain, p.reason[varOf(last)])
		c = p.resolvedAt(c, last)
	}
	slices.SortFunc(c, byVariable)
	if len(chain) > 1 {
		p.addLemma(impl.Lemma{Kind: impl.LemChain, Lits: c, Chain: chain})
	}
	p.met["no lemma of one number"] += oneOf(len(chain) == 1)
	p.met["one literal"] += oneOf(len(c) == 1)
	p.met["literal of level 0"] += oneOf(slices.Contains(p.levelsOf(c), 0))
	p.grow(c)
	back := 0
	if len(c) > 1 {
		back = p.levelsOf(c)[1]
	}
	p.met["far back"] += oneOf(back < top-1)
	p.takeBack(back)
	p.restart()
}

func (p *plainSearch) grow(c []int) {
	for _, lit := range c {
		p.activity[varOf(lit)]++
	}
	p.count[0]++
	if p.count[0]%16 == 0 {
		p.met["halved"]++
		for v := range p.activity {
			p.activity[v] /= 2
		}
	}
}

func (p *plainSearch) takeBack(level int) {
	for len(p.trail) > 0 {
		lit := p.trail[len(p.trail)-1]
		if p.level[varOf(lit)] <= level {
			break
		}
		p.trail = p.trail[:len(p.trail)-1]
		p.phase[varOf(lit)] = lit > 0
		p.value[varOf(lit)] = 0
	}
	p.decided = level
}

// restartRow is the row of the restarts, as the document tells it: what there is, once more, and then the next power of 2.
func restartRow(n int) []int {
	row := []int{1}
	for power := 2; len(row) < n; power *= 2 {
		row = append(slices.Concat(row, row), power)
	}
	return row
}

func (p *plainSearch) restart() {
	p.count[2]++
	if p.count[2] != 8*restartRow(p.count[1] + 1)[p.count[1]] {
		return
	}
	p.count[1]++
	p.count[2] = 0
	p.met["restart"]++
	p.takeBack(0)
	var kept, idle []int
	base := len(p.clauses) - len(p.lemmas)
	for i, lemma := range p.lemmas {
		if lemma.Kind == impl.LemChain && !p.dropped[base+i] {
			kept = append(kept, base+i)
			isReason := slices.ContainsFunc(p.trail, func(lit int) bool { return p.reason[varOf(lit)] == base+i })
			if !isReason {
				idle = append(idle, base+i)
			}
		}
	}
	p.met["just KeepMax"] += oneOf(len(kept) == 100)
	p.met["one more than KeepMax"] += oneOf(len(kept) == 101)
	if len(kept) <= 100 {
		return
	}
	p.met["dropping"]++
	longest := func(a, b int) int {
		return cmp.Or(cmp.Compare(len(p.clauses[b]), len(p.clauses[a])), cmp.Compare(a, b))
	}
	slices.SortFunc(idle, longest)
	slices.SortFunc(kept, longest)
	for i, left := 0, len(kept); i < len(idle) && left > 50; i, left = i+1, left-1 {
		p.dropped[idle[i]] = true
		p.met["reason spared"] += oneOf(kept[i] != idle[i])
		p.met["of one length"] += oneOf(left == 51 && i+1 < len(idle) && len(p.clauses[idle[i]]) == len(p.clauses[idle[i+1]]))
		p.met["unit dropped"] += oneOf(p.isUnit(p.clauses[idle[i]]))
	}
}

func (p *plainSearch) isUnit(clause []int) bool {
	open := slices.DeleteFunc(slices.Clone(clause), func(lit int) bool { return p.is(lit) < 0 })
	return len(open) == 1 && p.is(open[0]) == 0
}

// endWith resolves as long as there is a literal with a reason that is meant.
func (p *plainSearch) endWith(c, chain []int, isMeant func(lit int) bool) {
	for {
		last := p.lastOf(c, func(lit int) bool { return isMeant(lit) && p.reason[varOf(lit)] >= 0 })
		if last == 0 {
			break
		}
		chain = append(chain, p.reason[varOf(last)])
		c = p.resolvedAt(c, last)
	}
	slices.SortFunc(c, byVariable)
	p.lemmas = append(p.lemmas, impl.Lemma{Kind: impl.LemChain, Lits: c, Chain: chain})
	p.found.Trace = p.lemmas
	for number, lit := range p.asks {
		if slices.Contains(c, -lit) && slices.Index(p.asks, lit) == number {
			p.found.Core = append(p.found.Core, number)
		}
	}
	panic(plainEnd(impl.SearchUnsat))
}

func (p *plainSearch) endAtAsk(lit int) {
	number := p.reason[varOf(lit)]
	p.met["end at an ask"]++
	p.met["end at an ask of level 0"] += oneOf(p.level[varOf(lit)] == 0)
	p.met["end of one number"] += oneOf(len(p.clauses[number]) == 1)
	p.endWith(slices.Clone(p.clauses[number]), []int{number}, func(other int) bool { return other != -lit })
}

func sameLemma(a, b impl.Lemma) bool {
	return a.Kind == b.Kind && slices.Equal(a.Lits, b.Lits) && slices.Equal(a.Chain, b.Chain) && sameTree(a.Tree, b.Tree)
}

func sameFound(a, b impl.Found) bool {
	return a.Status == b.Status && a.Steps == b.Steps && slices.Equal(a.Values, b.Values) && slices.Equal(a.Cols, b.Cols) && slices.Equal(a.Vals, b.Vals) &&
		slices.Equal(a.Core, b.Core) && slices.EqualFunc(a.Trace, b.Trace, sameLemma)
}

// spoilFound writes over all that an answer's lists hold.
func spoilFound(f impl.Found) {
	clear(f.Values)
	overwrite(f.Cols, f.Core)
	overwriteTexts(f.Vals)
	for _, lemma := range f.Trace {
		overwrite(lemma.Lits, lemma.Chain)
		for _, node := range lemma.Tree {
			overwriteTexts(node.Mult)
		}
		clear(lemma.Tree)
	}
}

// A searchCase is what a search is asked.
type searchCase struct {
	b      impl.Bank
	roots  []int
	asks   []int
	shared []int
}

func (c searchCase) search(steps int) impl.Found {
	return impl.Search(c.b, c.roots, c.asks, c.shared, steps)
}

// checkFound holds Search against what is known to be right; what is handed in is as before, and the answers own their memory.
func (c searchCase) checkFound(t *testing.T, steps int, want impl.Found) {
	t.Helper()
	kept, lists := copied(c.b), [3][]int{slices.Clone(c.roots), slices.Clone(c.asks), slices.Clone(c.shared)}
	got := c.search(steps)
	if !sameFound(got, want) {
		t.Fatalf("%s\nroots %v, asks %v, shared %v, %d steps:\n%v\nwant\n%v", shortBank(c.b), c.roots, c.asks, c.shared, steps, got, want)
	}
	spoilFound(got)
	if !sameBank(c.b, kept) || !slices.Equal(c.roots, lists[0]) || !slices.Equal(c.asks, lists[1]) || !slices.Equal(c.shared, lists[2]) {
		t.Fatal("what was handed in is changed, or an answer shares memory with it")
	}
}

// check holds Search against the chapter's second reading, with all steps, and gives what that says and what it met.
func (c searchCase) check(t *testing.T) (impl.Found, map[string]int) {
	t.Helper()
	want, met := plainFound(t, c.b, c.roots, c.asks, c.shared, impl.MaxSteps)
	c.checkFound(t, impl.MaxSteps, want)
	return want, met
}

// checkLimits is the promise: with the steps that are needed, and with more, the answer is the same; with fewer it is SearchSteps.
func (c searchCase) checkLimits(t *testing.T, want impl.Found, limits ...int) {
	t.Helper()
	for _, limit := range limits {
		if limit < 1 || limit > impl.MaxSteps {
			continue
		}
		if limit >= want.Steps {
			c.checkFound(t, limit, want)
		} else {
			c.checkFound(t, limit, impl.Found{Status: impl.SearchSteps, Steps: limit})
		}
	}
}
