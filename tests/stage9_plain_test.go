package tests

import (
	"fmt"
	"slices"
	"strconv"
	"testing"

	"loop.example/g00007/impl"
)

// The signature and the type that the document gives: a change of one is no longer built.
var (
	_ func(impl.Bank, []int) impl.Lowered = impl.Lower
	_                                     = struct {
		Ok     bool
		Bank   impl.Bank
		To     []int
		Roots  []int
		Shared []int
	}(impl.Lowered{})
)

// A plainLowerer is what the chapter says of Lower, a second time: what is made is written as the chapter writes it, and read.
type plainLowerer struct {
	plainRewriter
	plainLowered
}

// A plainLowered is an answer, and for each fresh constant what it is for.
type plainLowered struct {
	impl.Lowered
	meant []plainFresh
}

// A plainFresh is what a fresh constant is for: an OpIte of b, a term of b divided by a number, or two arrays of Bank.
type plainFresh struct {
	choice   int
	dividend int
	divisor  string
	arrays   [2]int
}

// isIndex says whether the constant is an index for two arrays.
func (f plainFresh) isIndex() bool { return f.choice < 0 && f.divisor == "" }

func plainLower(b impl.Bank, roots []int) (res plainLowered) {
	if !impl.GoodBank(b) {
		return plainLowered{}
	}
	for _, root := range roots {
		if root < 0 || root >= len(b.Terms) || b.Terms[root].Sort != "Bool" {
			return plainLowered{}
		}
	}
	for _, name := range plainNames(b) {
		if name[0] == '.' {
			return plainLowered{}
		}
	}
	defer func() {
		if fault := recover(); fault != nil {
			if _, isFull := fault.(plainFull); !isFull {
				panic(fault)
			}
			res = plainLowered{}
		}
	}()
	p := &plainLowerer{plainRewriter: plainRewriter{found: map[string]int{}}}
	p.Ok, p.Bank = true, copied(impl.Bank{Sorts: b.Sorts, Funs: b.Funs})
	p.add(term(impl.OpTrue, "Bool"))
	p.add(term(impl.OpFalse, "Bool"))
	for range b.Terms {
		p.To = append(p.To, -1)
	}
	for _, id := range impl.Reached(b, roots) {
		p.To[id] = p.told(b, id)
	}
	p.tellArrays()
	p.tellShared()
	p.Bank.Terms = p.terms
	return p.plainLowered
}

func plainNames(b impl.Bank) []string {
	names := slices.Clone(b.Sorts)
	for _, f := range b.Funs {
		names = append(names, f.Name)
	}
	return names
}

// fresh gives the next fresh constant.
func (p *plainLowerer) fresh(sort string, meant plainFresh) int {
	if len(p.Bank.Sorts)+len(p.Bank.Funs) == 300 {
		panic(plainFull{})
	}
	name := fmt.Sprintf(".%d", len(p.meant))
	p.meant = append(p.meant, meant)
	p.Bank.Funs = append(p.Bank.Funs, impl.Fun{Name: name, Sort: sort})
	return p.add(constant(name, sort))
}

// names are what the letters of a written term stand for.
type names map[string]int

func (p *plainLowerer) require(text string, n names) {
	p.Roots = append(p.Roots, p.written(text, n))
}

func (p *plainLowerer) written(text string, n names) int {
	return p.tree(plainTrees(impl.ReadTree(text).Nodes)[0], n)
}

// tree makes the kids from the left, ahead of their term.
func (p *plainLowerer) tree(node plainNode, n names) int {
	if node.Kind == impl.NodName {
		id, known := n[node.Text]
		if !known {
			panic("a letter without a meaning: " + node.Text)
		}
		return id
	}
	var kids []int
	for _, kid := range node.kids[1:] {
		kids = append(kids, p.tree(kid, n))
	}
	return p.headed(node.kids[0].Text, kids)
}

func (p *plainLowerer) headed(head string, k []int) int {
	ops := map[string]int{"not": impl.OpNot, "and": impl.OpAnd, "or": impl.OpOr, "=": impl.OpEq, "<=": impl.OpLe, "+": impl.OpAdd, "*": impl.OpMul, "select": impl.OpSelect}
	sort := "Bool"
	switch head {
	case "+", "*":
		sort = "Int"
	case "select":
		sort = p.info(k[0]).Elem
	}
	before := len(p.terms)
	id := p.add(term(ops[head], sort, k...))
	kind := p.info(k[0]).Kind
	if head == "=" && len(p.terms) > before && (kind == impl.SortInt || kind == impl.SortReal) {
		p.require("(= it (and (<= k1 k2) (<= k2 k1)))", names{"it": id, "k1": k[0], "k2": k[1]})
	}
	return id
}

func (p *plainLowerer) info(id int) impl.SortInfo {
	return impl.ReadSort(p.Bank.Sorts, p.terms[id].Sort)
}

// told is what a term of b becomes.
func (p *plainLowerer) told(b impl.Bank, id int) int {
	x := b.Terms[id]
	var k []int
	for _, kid := range x.Kids {
		k = append(k, p.To[kid])
	}
	switch {
	case x.Op == impl.OpIte && x.Sort != "Bool":
		n := names{"x": p.fresh(x.Sort, plainFresh{choice: id}), "k1": k[0], "k2": k[1], "k3": k[2]}
		p.require("(or (not k1) (= x k2))", n)
		p.require("(or k1 (= x k3))", n)
		return n["x"]
	case x.Op == impl.OpDiv:
		return p.quotient(b, x, k)
	case x.Op == impl.OpMod:
		n := names{"x": p.quotient(b, x, k), "k1": k[0]}
		n["n'"] = p.add(numeral("Int", impl.IntSub("0", b.Terms[x.Kids[1]].Text)))
		return p.tree(listed("+", letter("k1"), listed("*", letter("n'"), letter("x"))), n)
	case x.Op == impl.OpDistinct:
		var all []plainNode
		n := names{}
		for i := range k {
			n[strconv.Itoa(i)] = k[i]
			for j := i + 1; j < len(k); j++ {
				all = append(all, listed("not", listed("=", letter(strconv.Itoa(i)), letter(strconv.Itoa(j)))))
			}
		}
		nested := all[0]
		for _, pair := range all[1:] {
			nested = listed("and", nested, pair)
		}
		return p.tree(nested, n)
	case x.Op == impl.OpEq:
		return p.headed("=", k)
	}
	x.Kids = k
	return p.add(x)
}

// listed and letter are trees that are not read from a text.
func listed(head string, kids ...plainNode) plainNode {
	return plainNode{impl.Node{Kind: impl.NodList}, append([]plainNode{letter(head)}, kids...)}
}

func letter(name string) plainNode {
	return plainNode{Node: impl.Node{Kind: impl.NodName, Text: name}}
}

// quotient looks at all fresh constants that there are: one may stand for this quotient.
func (p *plainLowerer) quotient(b impl.Bank, x impl.Term, k []int) int {
	divisor := b.Terms[x.Kids[1]].Text
	for i, f := range p.meant {
		if f.divisor == divisor && p.To[f.dividend] == k[0] {
			return p.add(constant(fmt.Sprintf(".%d", i), "Int"))
		}
	}
	n := names{"x": p.fresh("Int", plainFresh{choice: -1, dividend: x.Kids[0], divisor: divisor}), "k1": k[0], "n": k[1]}
	p.require("(<= (* n x) k1)", n)
	most := divisor
	if most[0] == '-' {
		most = most[1:]
	}
	n["m"] = p.add(numeral("Int", impl.IntSub(most, "1")))
	p.require("(<= k1 (+ (* n x) m))", n)
	return n["x"]
}

// where are the terms by now of which something is so.
func (p *plainLowerer) where(so func(x impl.Term) bool) []int {
	var ids []int
	for id, x := range p.terms {
		if so(x) {
			ids = append(ids, id)
		}
	}
	return ids
}

func (p *plainLowerer) tellArrays() {
	isArray := func(x impl.Term) bool { return impl.ReadSort(p.Bank.Sorts, x.Sort).Kind == impl.SortArray }
	for _, it := range p.where(func(x impl.Term) bool { return x.Op == impl.OpEq && isArray(p.terms[x.Kids[0]]) }) {
		a, b := p.terms[it].Kids[0], p.terms[it].Kids[1]
		y := p.fresh(p.info(a).Index, plainFresh{choice: -1, arrays: [2]int{a, b}})
		p.require("(or it (not (= (select a y) (select b y))))", names{"it": it, "a": a, "b": b, "y": y})
	}
	isIndex := map[string]bool{} // a sort of arrays and the index's number
	for _, use := range p.where(func(x impl.Term) bool { return x.Op == impl.OpSelect || x.Op == impl.OpStore }) {
		kids := p.terms[use].Kids
		isIndex[p.terms[kids[0]].Sort+strconv.Itoa(kids[1])] = true
	}
	stores, arrays, last := p.where(func(x impl.Term) bool { return x.Op == impl.OpStore }), p.where(isArray), len(p.terms)
	for _, a := range arrays {
		for j := range last {
			if isIndex[p.terms[a].Sort+strconv.Itoa(j)] {
				p.written("(select a j)", names{"a": a, "j": j})
			}
		}
	}
	for _, it := range stores {
		k := p.terms[it].Kids
		n := names{"it": it, "a": k[0], "i": k[1], "v": k[2]}
		p.require("(= (select it i) v)", n)
		for j := range last {
			if isIndex[p.terms[it].Sort+strconv.Itoa(j)] && j != k[1] {
				n["j"] = j
				p.require("(or (= j i) (= (select it j) (select a j)))", n)
			}
		}
	}
}

func (p *plainLowerer) tellShared() {
	calls := p.where(func(x impl.Term) bool { return x.Op == impl.OpSelect || x.Op == impl.OpApp && len(x.Kids) > 0 })
	for i, first := range calls {
		for _, second := range calls[i+1:] {
			x, y := p.terms[first], p.terms[second]
			if x.Op != y.Op || x.Text != y.Text || x.Op == impl.OpSelect && p.terms[x.Kids[0]].Sort != p.terms[y.Kids[0]].Sort {
				continue
			}
			for place := range x.Kids {
				if x.Kids[place] != y.Kids[place] {
					p.shareOne(x.Kids[place], y.Kids[place])
				}
			}
			p.shareOne(first, second)
		}
	}
}

func (p *plainLowerer) shareOne(k1, k2 int) {
	switch p.info(k1).Kind {
	case impl.SortInt, impl.SortReal, impl.SortBits:
		if id := p.headed("=", []int{k1, k2}); !slices.Contains(p.Shared, id) {
			p.Shared = append(p.Shared, id)
		}
	}
}

// sameLowered: empty and nil lists are the same.
func sameLowered(a, b impl.Lowered) bool {
	return a.Ok == b.Ok && sameBank(a.Bank, b.Bank) && slices.Equal(a.To, b.To) && slices.Equal(a.Roots, b.Roots) && slices.Equal(a.Shared, b.Shared)
}

// checkLower holds Lower against the second reading; what is handed in is as before, and the answer is of its own memory.
func checkLower(t *testing.T, b impl.Bank, roots ...int) plainLowered {
	t.Helper()
	kept, keptRoots, want := copied(b), slices.Clone(roots), plainLower(b, roots)
	got, again := impl.Lower(b, roots), impl.Lower(b, roots)
	for _, l := range []impl.Lowered{got, again} {
		if !sameLowered(l, want.Lowered) {
			t.Fatalf("Lower of %s by %v:\n%v %s\nwant\n%v %s", shortBank(b), roots, l.Ok, shortLowered(l), want.Ok, shortLowered(want.Lowered))
		}
		spoil(l.Bank)
		for _, list := range [][]int{l.To, l.Roots, l.Shared} {
			for i := range list[:cap(list)] {
				list[:cap(list)][i] = -7
			}
		}
	}
	if !sameBank(b, kept) || !slices.Equal(roots, keptRoots) {
		t.Fatal("Lower changed what it was given, or shares memory with it")
	}
	if want.Ok {
		checkLowered(t, b, roots, want.Lowered)
	}
	return want
}

// shortLowered tells an answer by texts, if it is not great.
func shortLowered(l impl.Lowered) string {
	if len(l.Bank.Terms) > 200 {
		return fmt.Sprintf("%d terms, %d roots, %d shared", len(l.Bank.Terms), len(l.Roots), len(l.Shared))
	}
	return fmt.Sprintf("to %v\nall %q\nroots %q\nshared %q", l.To, textsOf(l.Bank, upTo(len(l.Bank.Terms))), textsOf(l.Bank, l.Roots), textsOf(l.Bank, l.Shared))
}

func textsOf(b impl.Bank, ids []int) []string {
	var texts []string
	for _, id := range ids {
		texts = append(texts, impl.TermText(b, id))
	}
	return texts
}

// checkLowered looks at what holds of each answer whatever the forms are.
func checkLowered(t *testing.T, b impl.Bank, roots []int, l impl.Lowered) {
	t.Helper()
	if !impl.GoodBank(l.Bank) || len(l.To) != len(b.Terms) {
		t.Fatalf("%s: %d images, good: %v", shortBank(b), len(l.To), impl.GoodBank(l.Bank))
	}
	reached := impl.Reached(b, roots)
	for id, to := range l.To {
		if isReached := slices.Contains(reached, id); isReached != (to >= 0) || isReached && l.Bank.Terms[to].Sort != b.Terms[id].Sort {
			t.Fatalf("term %d of %s has the image %d", id, shortBank(b), to)
		}
	}
	for _, x := range l.Bank.Terms {
		if x.Op == impl.OpIte && x.Sort != "Bool" || x.Op == impl.OpDistinct || x.Op == impl.OpDiv || x.Op == impl.OpMod {
			t.Fatalf("%+v was to be told by others", x)
		}
	}
}
