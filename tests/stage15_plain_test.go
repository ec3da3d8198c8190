package tests

import (
	"reflect"
	"slices"
	"strconv"
	"strings"
	"testing"

	"loop.example/g00007/impl"
)

// The signatures and types that the document gives: a change of one is no longer built.
var (
	_ func(impl.Bank, []int) impl.Problem              = impl.Prepare
	_ func(impl.Bank, []int, int) impl.Verdict         = impl.Solve
	_ func(impl.Bank, []int, []int, []impl.Lemma) bool = impl.CheckProof
	_ func([]impl.Lemma) string                        = impl.ProofText
	_ func(string) (bool, []impl.Lemma)                = impl.ReadProof
	_ [0]int                                           = [impl.VerBad]int{}
	_ [1]int                                           = [impl.VerSat]int{}
	_ [2]int                                           = [impl.VerUnsat]int{}
	_ [3]int                                           = [impl.VerUnknown]int{}
	_ [0]int                                           = [impl.WhyNone]int{}
	_ [1]int                                           = [impl.WhySteps]int{}
	_ [2]int                                           = [impl.WhyNodes]int{}
	_ [3]int                                           = [impl.WhySize]int{}
	_ [4]int                                           = [impl.WhyModel]int{}
	_                                                  = struct {
		Status int
		Why    int
		Model  impl.Model
		Core   []int
		Proof  []impl.Lemma
	}(impl.Verdict{})
	_ = struct {
		Ok     bool
		Bank   impl.Bank
		Roots  []int
		Shared []int
		Asks   []int
	}(impl.Problem{})
)

// A verdictCase is what a verdict is asked of.
type verdictCase struct {
	b    impl.Bank
	asks []int
}

// readAsks reads a script: what it asserts, and what a check assumes, is asked, in order.
func readAsks(t *testing.T, text string) verdictCase {
	t.Helper()
	res := parsed(t, text)
	if res.Err != impl.LangOk {
		t.Fatalf("%s: error %d at %d", short(text), res.Err, res.At)
	}
	c := verdictCase{b: res.Script.Bank}
	for _, command := range res.Script.Commands {
		if command.Kind == impl.CmdAssert || command.Kind == impl.CmdCheck {
			c.asks = append(c.asks, command.Ids...)
		}
	}
	return c
}

// isAsked is whether the asks are all indexes of Bool terms of a good bank.
func (c verdictCase) isAsked() bool {
	return impl.GoodBank(c.b) && !slices.ContainsFunc(c.asks, func(id int) bool {
		return id < 0 || id >= len(c.b.Terms) || c.b.Terms[id].Sort != "Bool"
	})
}

// problem is Prepare, a second time.
func (c verdictCase) problem() impl.Problem {
	if !c.isAsked() {
		return impl.Problem{}
	}
	p, isOk := prepared(c.b, c.asks)
	if !isOk {
		return impl.Problem{}
	}
	return impl.Problem{Ok: true, Bank: p.b, Roots: p.roots, Shared: p.shared, Asks: p.asks}
}

func cnfOf(p impl.Problem) impl.Cnf {
	return impl.Clauses(p.Bank, p.Roots, slices.Concat(p.Shared, p.Asks))
}

// verdict is Solve, a second time: on texts, from what the search says.
func (c verdictCase) verdict(steps int) impl.Verdict {
	names := slices.Clone(c.b.Sorts)
	for _, f := range c.b.Funs {
		names = append(names, f.Name)
	}
	isInner := slices.ContainsFunc(names, func(name string) bool { return strings.HasPrefix(name, ".") })
	if !c.isAsked() || isInner || steps < 1 || steps > impl.MaxSteps {
		return impl.Verdict{}
	}
	p := c.problem()
	if !p.Ok {
		return unknown(impl.WhySize)
	}
	f := impl.Search(p.Bank, p.Roots, p.Asks, p.Shared, steps)
	switch f.Status {
	case impl.SearchSat:
		m, isTold := plainModelOf(c.b, p, f)
		if !isTold {
			return unknown(impl.WhySize)
		}
		if !impl.Holds(c.b, m, c.asks) {
			return unknown(impl.WhyModel)
		}
		return impl.Verdict{Status: impl.VerSat, Model: m}
	case impl.SearchUnsat:
		return impl.Verdict{Status: impl.VerUnsat, Core: f.Core, Proof: f.Trace}
	}
	return unknown(map[int]int{impl.SearchSteps: impl.WhySteps, impl.SearchNodes: impl.WhyNodes, impl.SearchBad: impl.WhySize, impl.SearchSize: impl.WhySize}[f.Status])
}

func unknown(why int) impl.Verdict {
	return impl.Verdict{Status: impl.VerUnknown, Why: why}
}

// plainValues are the values of a problem's terms, "" for none.
func plainValues(p impl.Problem, f impl.Found) []string {
	cnf := cnfOf(p)
	terms := p.Bank.Terms
	isOn := func(lit int) bool { return lit > 0 && f.Values[lit-1] || lit < 0 && !f.Values[-lit-1] }
	var facts []impl.Fact
	for _, atom := range cnf.Atoms {
		facts = append(facts, impl.Fact{Term: atom.Term, On: isOn(atom.Lit)})
	}
	classes := impl.Classes(p.Bank, facts)
	values := make([]string, len(terms))
	kids := func(id int) (list []string) {
		for _, kid := range terms[id].Kids {
			list = append(list, values[kid])
		}
		return list
	}
	for id, x := range terms {
		switch info := impl.ReadSort(p.Bank.Sorts, x.Sort); info.Kind {
		case impl.SortBool:
			values[id] = strconv.FormatBool(isOn(cnf.Lits[id]))
		case impl.SortBits:
			digits := strings.Repeat("0", info.Width-len(cnf.Bits[id]))
			for _, lit := range slices.Backward(cnf.Bits[id]) {
				digits += strconv.Itoa(oneOf(isOn(lit)))
			}
			values[id] = "#b" + digits
		case impl.SortOwn:
			least := map[int]bool{}
			for other := range classes[id] {
				if terms[other].Sort == x.Sort {
					least[classes[other]] = true
				}
			}
			values[id] = "@" + strconv.Itoa(len(least))
		case impl.SortInt, impl.SortReal:
			if col := slices.Index(f.Cols, id); col >= 0 {
				values[id] = f.Vals[col]
			} else if slices.Contains([]int{impl.OpNum, impl.OpAdd, impl.OpSub, impl.OpNeg, impl.OpMul, impl.OpToReal}, x.Op) {
				values[id] = plainCount(x, kids(id))
			} else {
				values[id] = "0"
			}
		}
	}
	for id, x := range terms {
		info := impl.ReadSort(p.Bank.Sorts, x.Sort)
		if info.Kind != impl.SortArray {
			continue
		}
		if x.Op == impl.OpStore {
			k := kids(id)
			values[id] = impl.ArrayPut(p.Bank.Sorts, x.Sort, k[0], k[1], k[2])
			continue
		}
		values[id] = "{" + impl.FirstValue(p.Bank.Sorts, info.Elem) + "}"
		for other, y := range terms {
			if y.Op == impl.OpSelect && y.Kids[0] == id {
				values[id] = impl.ArrayPut(p.Bank.Sorts, x.Sort, values[id], values[y.Kids[1]], values[other])
			}
		}
	}
	return values
}

// plainModelOf is the model that the chapter makes of what a search has found; not told where a value is none, or rows are too many.
func plainModelOf(b impl.Bank, p impl.Problem, f impl.Found) (m impl.Model, isTold bool) {
	values := plainValues(p, f)
	for id, v := range values {
		if !impl.IsValue(p.Bank.Sorts, p.Bank.Terms[id].Sort, v) {
			return impl.Model{}, false
		}
	}
	for _, fun := range b.Funs {
		in := impl.Interp{Name: fun.Name, Rest: impl.FirstValue(b.Sorts, fun.Sort)}
		for id, x := range p.Bank.Terms {
			if x.Op != impl.OpApp || x.Text != fun.Name {
				continue
			}
			if len(fun.Args) == 0 {
				in.Rest = values[id]
				continue
			}
			row := impl.Row{Val: values[id]}
			for _, kid := range x.Kids {
				row.Args = append(row.Args, values[kid])
			}
			isThere := slices.ContainsFunc(in.Rows, func(other impl.Row) bool { return slices.Equal(other.Args, row.Args) })
			if row.Val != in.Rest && !isThere {
				in.Rows = append(in.Rows, row)
			}
		}
		slices.SortFunc(in.Rows, func(x, y impl.Row) int { return oneOf(ascend(y.Args, x.Args)) - oneOf(ascend(x.Args, y.Args)) })
		if len(in.Rows) > impl.TableMax {
			return impl.Model{}, false
		}
		m.Interps = append(m.Interps, in)
	}
	return m, true
}

// takes is CheckProof, a second time.
func (c verdictCase) takes(core []int, proof []impl.Lemma) bool {
	p := c.problem()
	cnf := cnfOf(p)
	if !p.Ok || !cnf.Ok {
		return false
	}
	var lits []int
	for i, number := range core {
		if number < 0 || number >= len(c.asks) || i > 0 && core[i-1] >= number {
			return false
		}
		lits = append(lits, cnf.Lits[p.Asks[number]])
	}
	if len(proof) == 0 {
		return slices.ContainsFunc(lits, func(lit int) bool { return slices.Contains(lits, -lit) })
	}
	clauses := slices.Clone(cnf.Clauses)
	for _, lemma := range proof {
		if !(searchCase{b: p.Bank}).isRightLemma(cnf, clauses, lemma) {
			return false
		}
		clauses = append(clauses, lemma.Lits)
	}
	return !slices.ContainsFunc(clauses[len(clauses)-1], func(lit int) bool { return !slices.Contains(lits, -lit) })
}

func copiedLemma(lemma impl.Lemma) impl.Lemma {
	return impl.Lemma{Kind: lemma.Kind, Lits: slices.Clone(lemma.Lits), Chain: slices.Clone(lemma.Chain), Tree: copiedTree(lemma.Tree)}
}

func copiedProof(proof []impl.Lemma) (list []impl.Lemma) {
	for _, lemma := range proof {
		list = append(list, copiedLemma(lemma))
	}
	return list
}

func sameProof(a, b []impl.Lemma) bool {
	return slices.EqualFunc(a, b, sameLemma)
}

func sameVerdict(a, b impl.Verdict) bool {
	return a.Status == b.Status && a.Why == b.Why && reflect.DeepEqual(copiedModel(a.Model), copiedModel(b.Model)) && slices.Equal(a.Core, b.Core) && sameProof(a.Proof, b.Proof)
}

func sameProblem(a, b impl.Problem) bool {
	return a.Ok == b.Ok && sameBank(a.Bank, b.Bank) && slices.Equal(a.Roots, b.Roots) && slices.Equal(a.Shared, b.Shared) && slices.Equal(a.Asks, b.Asks)
}

// spoilVerdict writes over all that an answer's lists hold.
func spoilVerdict(v impl.Verdict) {
	for _, in := range v.Model.Interps {
		for _, row := range in.Rows {
			overwriteTexts(row.Args)
		}
		clear(in.Rows)
	}
	clear(v.Model.Interps)
	spoilFound(impl.Found{Core: v.Core, Trace: v.Proof})
	clear(v.Proof)
}

// mustBeAs looks whether what was handed in is as before.
func (c verdictCase) mustBeAs(t *testing.T, kept impl.Bank, asks []int) {
	t.Helper()
	if !sameBank(c.b, kept) || !slices.Equal(c.asks, asks) {
		t.Fatal("what was handed in is changed, or an answer shares memory with it")
	}
}

// checkSolve holds Solve against what is known to be right.
func (c verdictCase) checkSolve(t *testing.T, steps int, want impl.Verdict) {
	t.Helper()
	kept, asks := copied(c.b), slices.Clone(c.asks)
	got := impl.Solve(c.b, c.asks, steps)
	if !sameVerdict(got, want) {
		t.Fatalf("%s\nasks %v, %d steps:\n%v\nwant\n%v", shortBank(c.b), c.asks, steps, got, want)
	}
	spoilVerdict(got)
	c.mustBeAs(t, kept, asks)
}

// checkPrepare holds Prepare against its second reading.
func (c verdictCase) checkPrepare(t *testing.T) impl.Problem {
	t.Helper()
	kept, asks, want := copied(c.b), slices.Clone(c.asks), c.problem()
	got := impl.Prepare(c.b, c.asks)
	if !sameProblem(got, want) {
		t.Fatalf("%s\nasks %v:\n%v\nwant\n%v", shortBank(c.b), c.asks, got, want)
	}
	spoil(got.Bank)
	overwrite(got.Roots, got.Shared, got.Asks)
	c.mustBeAs(t, kept, asks)
	return want
}

// checkTakes holds CheckProof against its second reading.
func (c verdictCase) checkTakes(t *testing.T, core []int, proof []impl.Lemma) bool {
	t.Helper()
	kept, asks, keptCore, keptProof, want := copied(c.b), slices.Clone(c.asks), slices.Clone(core), copiedProof(proof), c.takes(core, proof)
	if got := impl.CheckProof(c.b, c.asks, core, proof); got != want {
		t.Fatalf("%s\nasks %v, core %v:\n%v\n%v, want %v", shortBank(c.b), c.asks, core, proof, got, want)
	}
	c.mustBeAs(t, kept, asks)
	if !slices.Equal(core, keptCore) || !sameProof(proof, keptProof) {
		t.Fatal("a core or a proof is changed")
	}
	return want
}

// check holds a verdict against its second reading, and looks at what it promises.
func (c verdictCase) check(t *testing.T, steps int) impl.Verdict {
	t.Helper()
	want := c.verdict(steps)
	c.checkSolve(t, steps, want)
	switch want.Status {
	case impl.VerSat:
		c.checkModelOf(t, want)
	case impl.VerUnsat:
		c.checkProofOf(t, want)
	case impl.VerUnknown:
		if want.Why == impl.WhyNone || want.Why == impl.WhyModel {
			t.Fatalf("%s\nasks %v: why %d", shortBank(c.b), c.asks, want.Why)
		}
	}
	return want
}

// checkModelOf is promise 14, of a verdict that is sat: by layer 7, and by its second reading.
func (c verdictCase) checkModelOf(t *testing.T, v impl.Verdict) {
	t.Helper()
	if !impl.GoodModel(c.b, v.Model) || !isPlainModel(c.b, v.Model) || !impl.Holds(c.b, v.Model, c.asks) {
		t.Fatalf("%s\nasks %v: the model is %v", shortBank(c.b), c.asks, v.Model)
	}
	values := plainEval(c.b, v.Model)
	for _, ask := range c.asks {
		if values[ask] != "true" {
			t.Fatalf("%s\n%d is asked, and %q in %v", shortBank(c.b), ask, values[ask], v.Model)
		}
	}
	if v.Why != impl.WhyNone || len(v.Core)+len(v.Proof) > 0 {
		t.Fatalf("sat with more than a model: %v", v)
	}
}

// asksOf are those of a core.
func (c verdictCase) asksOf(core []int) (asks []int) {
	for _, number := range core {
		asks = append(asks, c.asks[number])
	}
	return asks
}

// checkProofOf is promises 14, 17 and 19, of a verdict that is unsat.
func (c verdictCase) checkProofOf(t *testing.T, v impl.Verdict) {
	t.Helper()
	if v.Why != impl.WhyNone || len(v.Model.Interps) > 0 {
		t.Fatalf("unsat with more than a proof: %v", v)
	}
	if !c.checkTakes(t, v.Core, v.Proof) {
		t.Fatalf("%s\nasks %v, core %v: not taken\n%v", shortBank(c.b), c.asks, v.Core, v.Proof)
	}
	if !c.checkTakes(t, upTo(len(c.asks)), v.Proof) {
		t.Fatalf("%s\nasks %v: not taken with all of these for a core\n%v", shortBank(c.b), c.asks, v.Proof)
	}
	for _, asks := range [][]int{c.asksOf(v.Core), slices.Concat(c.asksOf(v.Core), c.asks), slices.Concat(c.asks, c.asks)} {
		if again := impl.Solve(c.b, asks, impl.MaxSteps/10); again.Status == impl.VerSat {
			t.Fatalf("%s\nasks %v are unsat by their core %v, and %v are sat: %v", shortBank(c.b), c.asks, v.Core, asks, again.Model)
		}
	}
	checkWritten(t, v.Proof)
}

// checkWritten is promise 19: a proof that has a text is read from it.
func checkWritten(t *testing.T, proof []impl.Lemma) string {
	t.Helper()
	kept := copiedProof(proof)
	text, want := impl.ProofText(proof), plainProofText(proof)
	if text != want {
		t.Fatalf("%v is written\n%q, want\n%q", proof, short(text), short(want))
	}
	ok, read := impl.ReadProof(text)
	if ok != (text != "") || ok && !sameProof(read, proof) || !ok && len(read) > 0 {
		t.Fatalf("%q is read %v, %v", short(text), ok, read)
	}
	spoilFound(impl.Found{Trace: read})
	clear(read)
	if !sameProof(proof, kept) {
		t.Fatal("a proof is changed")
	}
	return text
}

// plainProofText is ProofText, a second time: each line is a tree that layer 3 writes.
func plainProofText(proof []impl.Lemma) string {
	text := ""
	for _, lemma := range proof {
		line := plainLine(lemma)
		if text += line; line == "" || len(text) > impl.TextMax {
			return ""
		}
	}
	return text
}

func listTree(kids ...[]impl.Node) []impl.Node {
	return append([]impl.Node{{Kind: impl.NodList, Kids: len(kids)}}, slices.Concat(kids...)...)
}

func nameTree(text string) []impl.Node {
	return []impl.Node{{Kind: impl.NodName, Text: text}}
}

func intTree(number string) []impl.Node {
	if size, isBelow := strings.CutPrefix(number, "-"); isBelow {
		return listTree(nameTree("-"), intTree(size))
	}
	return []impl.Node{{Kind: impl.NodInt, Text: number}}
}

// plainLine is "" of what has no line, or a line of more nodes or bytes than layer 3 takes.
func plainLine(lemma impl.Lemma) string {
	kind := map[int]string{impl.LemEqual: "equal", impl.LemLinear: "linear", impl.LemChain: "chain"}[lemma.Kind]
	isTold := kind != ""
	var lits, numbers, nodes [][]impl.Node
	for _, lit := range lemma.Lits {
		isTold = isTold && lit != 0
		lits = append(lits, intTree(strconv.Itoa(lit)))
	}
	for _, number := range lemma.Chain {
		isTold = isTold && number >= 0
		numbers = append(numbers, intTree(strconv.Itoa(number)))
	}
	for _, node := range lemma.Tree {
		if node.Col >= 0 {
			isTold = isTold && impl.IsInt(node.At) && len(node.Mult) == 0
			nodes = append(nodes, listTree(nameTree("branch"), intTree(strconv.Itoa(node.Col)), intTree(node.At)))
			continue
		}
		isTold = isTold && node.Col == -1 && node.At == ""
		leaf := [][]impl.Node{nameTree("leaf")}
		for _, mult := range node.Mult {
			isTold = isTold && impl.IsInt(mult)
			leaf = append(leaf, intTree(mult))
		}
		nodes = append(nodes, listTree(leaf...))
	}
	if !isTold {
		return ""
	}
	return impl.WriteTree(listTree(nameTree(kind), listTree(lits...), listTree(numbers...), listTree(nodes...)))
}
