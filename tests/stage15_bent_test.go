package tests

import (
	"math/rand"
	"slices"
	"strconv"
	"testing"

	"loop.example/g00007/impl"
)

// bentNumbers is a list with one thing changed: a number, a sign, two places, one that is left out, put in or there twice.
func bentNumbers(r *rand.Rand, list []int, below int) []int {
	list = slices.Clone(list)
	if len(list) == 0 || r.Intn(6) == 0 {
		return slices.Insert(list, r.Intn(len(list)+1), r.Intn(below+2)-1)
	}
	i, j := r.Intn(len(list)), r.Intn(len(list))
	switch r.Intn(6) {
	case 0:
		list[i] = -list[i]
	case 1:
		list[i] += 1 - 2*r.Intn(2)
	case 2:
		list[i] = r.Intn(below + 2)
	case 3:
		list[i], list[j] = list[j], list[i]
	case 4:
		list = slices.Delete(list, i, i+1)
	case 5:
		list = slices.Insert(list, i, list[i])
	}
	return list
}

// bentTree is a tree with a node changed, left out, there twice, or with a part that it should not have.
func bentTree(r *rand.Rand, tree []impl.TreeNode) []impl.TreeNode {
	tree = copiedTree(tree)
	if len(tree) == 0 {
		return []impl.TreeNode{leafWith()}
	}
	i := r.Intn(len(tree))
	node := &tree[i]
	switch r.Intn(7) {
	case 0:
		return slices.Delete(tree, i, i+1)
	case 1:
		return slices.Insert(tree, i, tree[i])
	case 2:
		node.Col += 1 - 2*r.Intn(2)
	case 3:
		node.At = []string{"", "0", "-1", "x", "00"}[r.Intn(5)]
	case 4:
		node.Mult = append(node.Mult, strconv.Itoa(r.Intn(2)))
	case 5:
		if len(node.Mult) > 0 {
			node.Mult = node.Mult[1:]
		}
	case 6:
		if len(node.Mult) > 0 {
			k := r.Intn(len(node.Mult))
			node.Mult[k] = []string{"0", "1", "2", "-1", "", "1/2", impl.IntMul(node.Mult[k], "2"), impl.IntAdd(node.Mult[k], "1")}[r.Intn(8)]
		} else {
			node.At = impl.IntAdd(node.At, strconv.Itoa(r.Intn(3)-1))
		}
	}
	return tree
}

// bent is a core and a proof with one thing changed; part says what.
func (p proofRow) bent(r *rand.Rand, c verdictCase, cnf impl.Cnf) (bent proofRow, part string) {
	bent = proofRow{slices.Clone(p.core), copiedProof(p.proof)}
	if len(p.proof) == 0 || r.Intn(6) == 0 {
		bent.core = bentNumbers(r, bent.core, len(c.asks))
		return bent, "core"
	}
	i, j := r.Intn(len(bent.proof)), r.Intn(len(bent.proof))
	lemma := &bent.proof[i]
	switch r.Intn(8) {
	case 0:
		lemma.Kind = r.Intn(5)
		return bent, "kind"
	case 1, 2:
		lemma.Lits = bentNumbers(r, lemma.Lits, cnf.Vars)
		return bent, "lits"
	case 3, 4:
		lemma.Chain = bentNumbers(r, lemma.Chain, len(cnf.Clauses)+len(p.proof))
		return bent, "chain"
	case 5:
		lemma.Tree = bentTree(r, lemma.Tree)
		return bent, "tree"
	case 6:
		bent.proof = slices.Delete(bent.proof, i, i+1)
		return bent, "one less"
	}
	bent.proof[i], bent.proof[j] = bent.proof[j], bent.proof[i]
	return bent, "order"
}

// mustBeSound is promise 15: where a proof is taken, no model makes all asks of the core true, by what the search or all values tell.
func (c verdictCase) mustBeSound(t *testing.T, kind string, row proofRow, models []impl.Model) {
	t.Helper()
	asks := c.asksOf(row.core)
	for _, m := range models {
		if impl.Holds(c.b, m, asks) {
			t.Fatalf("%s\nasks %v, core %v hold in %v, and\n%v\nis taken", shortBank(c.b), c.asks, row.core, m, row.proof)
		}
	}
	if kind == "Bools" && isSatBools(searchCase{b: c.b, asks: asks}) || kind == "words" && isSatWords(c.b, asks) {
		t.Fatalf("%s\nasks %v, core %v are sat, and\n%v\nis taken", shortBank(c.b), c.asks, row.core, row.proof)
	}
	if v := impl.Solve(c.b, asks, 20000); v.Status == impl.VerSat {
		t.Fatalf("%s\nasks %v, core %v hold in %v, and\n%v\nis taken", shortBank(c.b), c.asks, row.core, v.Model, row.proof)
	}
}

// drawUnsat draws asks of a kind that are unsat, and with a proof that is no longer than others.
func drawUnsat(t *testing.T, r *rand.Rand, kind string) (verdictCase, proofRow) {
	t.Helper()
	for {
		var c verdictCase
		if kind == "words" {
			b := drawWordBank(r, 4)
			c = verdictCase{b, drawAsks(r, b, 5)}
		} else {
			c = readAsks(t, scriptOf(r, kind))
		}
		v := impl.Solve(c.b, c.asks, 20000)
		if v.Status == impl.VerUnsat && len(v.Proof) < 25 && (len(v.Proof) > 0 || r.Intn(10) == 0) {
			return c, proofRow{v.Core, v.Proof}
		}
	}
}

// Right proofs that are bent in each part: they are taken just where the chapter says so, and then they are right.
func TestStage15BentProofs(t *testing.T) {
	r := rand.New(rand.NewSource(155))
	parts, taken := map[string]int{}, map[string]int{}
	for n := range 84 {
		kind := []string{"Bools", "own", "arrays", "Int", "Real", "mix", "words"}[n%7]
		c, row := drawUnsat(t, r, kind)
		cnf := cnfOf(c.problem())
		if !c.checkTakes(t, row.core, row.proof) {
			t.Fatalf("%v is not taken", row)
		}
		var models []impl.Model
		for range 5 {
			models = append(models, drawModel(r, c.b))
		}
		for range 30 {
			bent, part := row.bent(r, c, cnf)
			if r.Intn(4) == 0 {
				bent, _ = bent.bent(r, c, cnf)
			}
			parts[part]++
			if c.checkTakes(t, bent.core, bent.proof) {
				taken[part]++
				c.mustBeSound(t, kind, bent, models)
			}
		}
	}
	mustBeMet(t, parts, 100, "core", "kind", "lits", "chain", "tree", "one less", "order")
	mustBeMet(t, taken, 5, "core", "kind", "lits", "chain", "order")
	mustBeMet(t, taken, 1, "tree")
}

// A proof is one of its asks: with others, or a core of fewer, it is not taken where these are sat.
func TestStage15OtherAsks(t *testing.T) {
	r := rand.New(rand.NewSource(156))
	met := map[string]int{}
	for n := range 84 {
		kind := []string{"Bools", "own", "arrays", "Int", "Real", "mix", "words"}[n%7]
		c, row := drawUnsat(t, r, kind)
		for i := range row.core {
			less := slices.Delete(slices.Clone(row.core), i, i+1)
			isSat := impl.Solve(c.b, c.asksOf(less), 20000).Status == impl.VerSat
			if c.checkTakes(t, less, row.proof) && isSat {
				t.Fatalf("%s\nasks %v, core %v: sat, and %v is taken", shortBank(c.b), c.asks, less, row.proof)
			}
			met["less, sat"] += oneOf(isSat)
			// another ask in its place, and the first one twice
			other := verdictCase{c.b, slices.Clone(c.asks)}
			other.asks[row.core[i]] = boolTerms(c.b)[r.Intn(len(boolTerms(c.b)))]
			isSat = impl.Solve(c.b, other.asksOf(row.core), 20000).Status == impl.VerSat
			if other.checkTakes(t, row.core, row.proof) && isSat {
				t.Fatalf("%s\nasks %v, core %v: sat, and %v is taken", shortBank(c.b), other.asks, row.core, row.proof)
			}
			met["other, sat"] += oneOf(isSat)
		}
	}
	mustBeMet(t, met, 30, "less, sat", "other, sat")
}

// Each proof of one lemma with up to three numbers, and of each small leaf: what is taken has no model.
func TestStage15AllShortProofs(t *testing.T) {
	met := map[bool]int{}
	for _, text := range []string{
		boolConsts + "(assert (and p q))(assert (not q))", boolConsts + "(assert (and p q))(assert q)", boolConsts + "(assert (xor p q))(assert p)", boolConsts + "(assert (and p (not p)))", boolConsts + "(assert (or p q))(assert (not p))(assert (not q))", boolConsts + "(assert (or p q))(assert (not p))(assert q)",
		"(declare-sort U 0)(declare-const x U)(declare-const y U)(declare-fun P (U) Bool)(assert (= x y))(assert (P x))(assert (not (P y)))", "(declare-const x Int)(assert (<= x 0))(assert (<= 2 x))", "(declare-const x Int)(assert (<= x 0))(assert (<= x 2))",
	} {
		c := readAsks(t, text)
		cnf := cnfOf(c.problem())
		isSat := impl.Solve(c.b, c.asks, 1000).Status == impl.VerSat
		for _, lits := range signedLists(cnf.Vars) {
			var lemmas []impl.Lemma
			for number := range 4 * 4 * 4 * 2 {
				lemma := chain(lits, number%4)
				if number >= 64 {
					lemma.Chain = append(lemma.Chain, number/4%4, number/16%4)
				} else if number >= 4 {
					lemma.Chain = append(lemma.Chain, number/4%4)
				}
				lemmas = append(lemmas, lemma)
			}
			lemmas = append(lemmas, equal(lits...), linear(lits), linear(lits, leafWith("1")), linear(lits, leafWith("1", "1")), linear(lits, leafWith("0", "1")), linear(lits, leafWith("1", "0")), linear(lits, leafWith()))
			for _, lemma := range lemmas {
				isTaken := impl.CheckProof(c.b, c.asks, upTo(len(c.asks)), []impl.Lemma{lemma})
				if isTaken && isSat {
					t.Fatalf("%s: %v is taken", text, lemma)
				}
				met[isTaken]++
			}
		}
	}
	if met[true] < 5 || met[false] < 10000 {
		t.Errorf("taken and not: %v", met)
	}
}

// signedLists are all lists of literals by their variables.
func signedLists(vars int) [][]int {
	lists := [][]int{nil}
	for v := 1; v <= vars; v++ {
		for _, list := range lists {
			lists = append(lists, append(slices.Clone(list), v), append(slices.Clone(list), -v))
		}
	}
	return lists
}
