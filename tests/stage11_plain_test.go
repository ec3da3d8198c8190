package tests

import (
	"fmt"
	"slices"
	"strings"
	"testing"

	"loop.example/g00007/impl"
)

// The signatures, the type and the limit that the document gives: a change of one is no longer built.
var (
	_ func(impl.Bank, []impl.Fact) []int = impl.Classes
	_ func(impl.Bank, []impl.Fact) []int = impl.Clash
	_                                    = struct {
		Term int
		On   bool
	}(impl.Fact{})
	_ = [1]int{}[impl.MaxFacts-300]
)

// areFacts is for what the chapter asks of the arguments of both functions.
func areFacts(b impl.Bank, facts []impl.Fact) bool {
	for _, f := range facts {
		if f.Term < 0 || f.Term >= len(b.Terms) || b.Terms[f.Term].Sort != "Bool" {
			return false
		}
	}
	return len(facts) <= 300 && impl.GoodBank(b)
}

// hasRule is whether equal kids make terms of the operation equal.
func hasRule(op int) bool {
	return !slices.Contains([]int{impl.OpEq, impl.OpNot, impl.OpAnd, impl.OpOr, impl.OpXor, impl.OpImplies, impl.OpIte, impl.OpDistinct}, op)
}

// plainEqual is what the chapter says of equal terms, a second time: each term has a number, its own index at first; where a rule
// makes two terms equal, the lesser of their numbers is written over the greater one; till no rule tells more.
func plainEqual(b impl.Bank, facts []impl.Fact) []int {
	of := upTo(len(b.Terms))
	unite := func(x, y int) bool {
		low, high := min(of[x], of[y]), max(of[x], of[y])
		for id := range of {
			if of[id] == high {
				of[id] = low
			}
		}
		return low != high
	}
	for _, f := range facts {
		if x := b.Terms[f.Term]; x.Op == impl.OpEq && f.On {
			unite(x.Kids[0], x.Kids[1])
		}
		for id, x := range b.Terms {
			if f.On && x.Op == impl.OpTrue || !f.On && x.Op == impl.OpFalse {
				unite(f.Term, id)
			}
		}
	}
	for isMore := true; isMore; {
		isMore = false
		first := map[string]int{}
		for id, x := range b.Terms {
			var look strings.Builder
			fmt.Fprintf(&look, "%d %q %q %d %d:", x.Op, x.Sort, x.Text, x.A, x.B)
			for _, kid := range x.Kids {
				fmt.Fprintf(&look, " %d", of[kid])
			}
			if other, isThere := first[look.String()]; !isThere {
				first[look.String()] = id
			} else if hasRule(x.Op) && unite(id, other) {
				isMore = true
			}
		}
	}
	return of
}

func plainClashes(b impl.Bank, facts []impl.Fact) bool {
	of := plainEqual(b, facts)
	for i, f := range facts {
		if x := b.Terms[f.Term]; x.Op == impl.OpEq && !f.On && of[x.Kids[0]] == of[x.Kids[1]] {
			return true
		}
		for _, g := range facts[:i] {
			if f.Term == g.Term && f.On != g.On {
				return true
			}
		}
	}
	constants := map[int]int{}
	for id, x := range b.Terms {
		if slices.Contains([]int{impl.OpTrue, impl.OpFalse, impl.OpNum, impl.OpBits}, x.Op) {
			constants[of[id]]++
			if constants[of[id]] > 1 {
				return true
			}
		}
	}
	return false
}

// factsAt are the facts with these numbers.
func factsAt(facts []impl.Fact, numbers []int) []impl.Fact {
	var some []impl.Fact
	for _, n := range numbers {
		some = append(some, facts[n])
	}
	return some
}

// plainCore leaves out one fact after the other, as the chapter has it.
func plainCore(b impl.Bank, facts []impl.Fact) []int {
	if !plainClashes(b, facts) {
		return nil
	}
	core := upTo(len(facts))
	for n := range facts {
		others := slices.DeleteFunc(slices.Clone(core), func(m int) bool { return m == n })
		if plainClashes(b, factsAt(facts, others)) {
			core = others
		}
	}
	return core
}

// checkEqual holds Classes and Clash against the second reading; what is handed in is as before, and the answers are of their own
// memory.
func checkEqual(t *testing.T, b impl.Bank, facts []impl.Fact) (of, core []int) {
	t.Helper()
	if areFacts(b, facts) {
		of, core = plainEqual(b, facts), plainCore(b, facts)
	}
	checkAnswers(t, b, facts, of, core)
	return of, core
}

// checkAnswers asks for what is known to be right.
func checkAnswers(t *testing.T, b impl.Bank, facts []impl.Fact, of, core []int) {
	t.Helper()
	kept, keptFacts := copied(b), slices.Clone(facts)
	classes, again := impl.Classes(b, facts), impl.Classes(b, facts)
	clash, clashAgain := impl.Clash(b, facts), impl.Clash(b, facts)
	for _, got := range [][]int{classes, again} {
		if !slices.Equal(got, of) {
			t.Fatalf("Classes of %s by %v:\n%v\nwant\n%v", shortBank(b), facts, got, of)
		}
		overwrite(got)
	}
	for _, got := range [][]int{clash, clashAgain} {
		if !slices.Equal(got, core) {
			t.Fatalf("Clash of %s by %v: %v, want %v", shortBank(b), facts, got, core)
		}
		overwrite(got)
	}
	if !sameBank(b, kept) || !slices.Equal(facts, keptFacts) {
		t.Fatal("what was handed in is changed, or an answer shares memory with it")
	}
}

// mustBeCore is what the promise says of a core: it clashes, and no more without any one of its facts.
func mustBeCore(t *testing.T, b impl.Bank, facts []impl.Fact, core []int) {
	t.Helper()
	if !slices.IsSorted(core) || len(core) > 0 && (core[0] < 0 || core[len(core)-1] >= len(facts)) {
		t.Fatalf("%v is no core of %d facts", core, len(facts))
	}
	some := factsAt(facts, core)
	if !slices.Equal(impl.Clash(b, some), upTo(len(some))) {
		t.Fatalf("%s, %v: the core %v has the core %v", shortBank(b), facts, core, impl.Clash(b, some))
	}
	for n := range some {
		if fewer := slices.Delete(slices.Clone(some), n, n+1); len(impl.Clash(b, fewer)) > 0 {
			t.Fatalf("%s, %v: the core %v clashes without number %d of it", shortBank(b), facts, core, n)
		}
	}
}

// mustBeWithin is what the promise says of more facts: they make no fewer terms equal.
func mustBeWithin(t *testing.T, few, many []int) {
	t.Helper()
	if len(few) != len(many) {
		t.Fatalf("%d and %d classes", len(few), len(many))
	}
	for id := range few {
		if many[few[id]] != many[id] {
			t.Fatalf("terms %d and %d are no more equal: %v, %v", id, few[id], few, many)
		}
	}
}
