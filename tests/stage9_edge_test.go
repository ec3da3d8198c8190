package tests

import (
	"reflect"
	"slices"
	"strconv"
	"strings"
	"testing"

	"loop.example/g00007/impl"
)

// Terms that no root reaches have no image, and nothing is made of them.
func TestStage9Reached(t *testing.T) {
	b := parsed(t, declaredMix+"(get-value ((ite q x y) (div x 3) (= x y) (distinct u v) (store a x y) (= a a) (and p (= u v)) (not p) true))").Script.Bank
	texts := textsOf(b, upTo(len(b.Terms)))
	at := func(text string) int { return slices.Index(texts, text) }
	for _, row := range []struct {
		roots   []string
		reached []string
		terms   int
	}{
		{nil, nil, 2},
		{[]string{"true"}, []string{"true"}, 2},
		{[]string{"false"}, []string{"false"}, 2},
		{[]string{"false", "true", "false"}, []string{"true", "false"}, 2},
		{[]string{"q"}, []string{"q"}, 3},
		{[]string{"(not p)"}, []string{"p", "(not p)"}, 4},
		{[]string{"(not p)", "p"}, []string{"p", "(not p)"}, 4},
		{[]string{"(and p (= u v))"}, []string{"u", "v", "p", "(= u v)", "(and p (= u v))"}, 7},
		{[]string{"(distinct u v)"}, []string{"u", "v", "(distinct u v)"}, 6},
		{[]string{"(distinct u v)", "(and p (= u v))"}, []string{"u", "v", "(distinct u v)", "p", "(= u v)", "(and p (= u v))"}, 8},
		{[]string{"(= x y)"}, []string{"x", "y", "(= x y)"}, 9},
	} {
		var roots []int
		for _, root := range row.roots {
			roots = append(roots, at(root))
		}
		l := checkLower(t, b, roots...)
		for id, text := range texts {
			if slices.Contains(row.reached, text) != (l.To[id] >= 0) {
				t.Errorf("%v: the image of %s is %d", row.roots, text, l.To[id])
			}
		}
		if !l.Ok || len(l.Bank.Terms) != row.terms || len(l.Bank.Funs) != len(b.Funs) {
			t.Errorf("%v: %v, %d terms, %d functions", row.roots, l.Ok, len(l.Bank.Terms), len(l.Bank.Funs))
		}
	}
}

// A root twice, roots in another order: the terms are gone through by index all the same.
func TestStage9RootsTwice(t *testing.T) {
	read := parsed(t, declaredMix+asserted("(= x (ite p y 3))", "(< (f x) (mod y 5))", "(distinct a (store a x y))"))
	roots := []int{read.Script.Commands[0].Ids[0], read.Script.Commands[1].Ids[0], read.Script.Commands[2].Ids[0]}
	b := read.Script.Bank
	want := checkLower(t, b, roots...)
	for _, others := range [][]int{{roots[2], roots[1], roots[0]}, {roots[0], roots[1], roots[2], roots[0], roots[1]}, slices.Repeat(roots, 500)} {
		if got := checkLower(t, b, others...); !sameLowered(got.Lowered, want.Lowered) {
			t.Errorf("%v: %s", others, shortLowered(got.Lowered))
		}
	}
}

// OpTrue and OpFalse stand ahead of all, wherever they stood, or if they did not; a bank without terms keeps its names.
func TestStage9SmallBanks(t *testing.T) {
	for _, b := range []impl.Bank{{}, {Sorts: []string{}, Funs: []impl.Fun{}, Terms: []impl.Term{}}, impl.NewBank(), {Sorts: []string{"U", "a b"}, Funs: []impl.Fun{{Name: "f", Args: []string{"U", "|a b|"}, Sort: "Bool"}}}, manyNames(150, 150), manyTerms(impl.MaxTerms)} {
		if l := checkLower(t, b); !l.Ok || len(l.Bank.Terms) != 2 || len(l.Bank.Sorts) != len(b.Sorts) || len(l.Bank.Funs) != len(b.Funs) || len(l.To) != len(b.Terms) {
			t.Errorf("%s: %s", shortBank(b), shortLowered(l.Lowered))
		}
	}
	b := impl.Bank{Terms: []impl.Term{term(impl.OpFalse, "Bool"), term(impl.OpNot, "Bool", 0), term(impl.OpTrue, "Bool"), term(impl.OpDistinct, "Bool", 0, 2)}}
	if l := checkLower(t, b, 3, 1); !slices.Equal(l.To, []int{1, 2, 0, 4}) {
		t.Errorf("%v", l.To)
	}
}

// Each fresh constant has the next number, whatever its sort and whatever it is for, and stands behind the other functions.
func TestStage9FreshNames(t *testing.T) {
	l, _ := lowerText(t, declaredMix+asserted("(< (div x 3) (ite p x y))", "(= u (ite q u v))", "(= w (ite p w z))", "(= r (ite p r s))", "(= c (ite p c c))", "(< (mod x 3) (mod y 3))", "(= a a)"))
	const ahead = 16 // functions of declaredMix
	index := bitsOf(1)
	var want []impl.Fun
	for i, sort := range []string{"Int", "Int", "U", bitsOf(4), "Real", arrayOf(index, "U"), "Int", index, index, "Int"} {
		want = append(want, impl.Fun{Name: "." + strconv.Itoa(i), Sort: sort})
	}
	if got := copied(l.Bank).Funs[ahead:]; !reflect.DeepEqual(got, want) || l.Bank.Funs[ahead-1].Name != "k" {
		t.Errorf("%+v, want\n%+v", got, want)
	}
}

// chained is a bank whose terms stand behind those of a chain of OpNot, with one root for the chain and one for each of roots.
func chained(b impl.Bank, roots []int, length int) (impl.Bank, []int) {
	long := copied(b)
	long.Funs = append(long.Funs, impl.Fun{Name: "chain", Sort: "Bool"})
	long.Terms = []impl.Term{constant("chain", "Bool")}
	for i := range length - 1 {
		long.Terms = append(long.Terms, term(impl.OpNot, "Bool", i))
	}
	for _, x := range copied(b).Terms {
		for i := range x.Kids {
			x.Kids[i] += length
		}
		long.Terms = append(long.Terms, x)
	}
	all := []int{length - 1}
	for _, root := range roots {
		all = append(all, root+length)
	}
	return long, all
}

// The bank becomes full at each place in what is made.
func TestStage9FullOnTheWay(t *testing.T) {
	for _, text := range []string{"(= x (ite p y 3))", "(bvult w (ite p w z))", "(< (div x 3) (mod x 3))", "(< (mod x 3) (div y (- 4)))", "(distinct u v (k w) (k z))", "(distinct x y 3)", "(= x y)", "(= a (store a x y))", "(= c (ite p c (store c #b1 u)))", "(distinct (f x) (f y) (f 3))", "(g x u)", "(< (h r w x) (h s z y))", "(= (select a x) (select a y))"} {
		read := parsed(t, declaredMix+asserted(text))
		b, roots := read.Script.Bank, read.Script.Commands[0].Ids
		whole := len(checkLower(t, b, roots...).Bank.Terms)
		for spare := len(b.Terms); spare <= whole+3; spare++ {
			long, all := chained(b, roots, impl.MaxTerms-spare)
			if l := checkLower(t, long, all...); l.Ok != (whole <= spare) || l.Ok && len(l.Bank.Terms) != impl.MaxTerms-spare+whole {
				t.Errorf("%s with %d terms to spare of %d: %v", text, spare, whole, l.Ok)
			}
		}
	}
}

// MaxNames names, and one more: own sorts, functions and fresh constants count together.
func TestStage9ManyNames(t *testing.T) {
	for _, row := range []struct {
		text  string
		fresh int
	}{{"(= x y)", 0}, {"(= x (ite p y 3))", 1}, {"(< (div x 3) (mod x 3))", 1}, {"(< (div x 3) (mod x 4))", 2}, {"(= a (store a x y))", 1}, {"(= c (ite p c (store c #b1 u)))", 4}, {"(distinct a (ite p a (store a x y)) (store a y x))", 6}} {
		read := parsed(t, declaredMix+asserted(row.text))
		for names := impl.MaxNames - 8; names <= impl.MaxNames; names++ {
			b := copied(read.Script.Bank)
			for i := 0; len(b.Funs)+len(b.Sorts) < names; i++ {
				if i%2 == 0 {
					b.Sorts = append(b.Sorts, "S"+strconv.Itoa(i))
				} else {
					b.Funs = append(b.Funs, impl.Fun{Name: "F" + strconv.Itoa(i), Args: []string{"S0"}, Sort: "Bool"})
				}
			}
			l := checkLower(t, b, read.Script.Commands[0].Ids...)
			if l.Ok != (names+row.fresh <= impl.MaxNames) || l.Ok && len(l.Bank.Funs)+len(l.Bank.Sorts) != names+row.fresh {
				t.Errorf("%s with %d names: %v", row.text, names, l.Ok)
			}
		}
	}
}

// OpDistinct of many: an OpEq and its OpNot for each pair, an OpAnd for each but one, and of numbers four terms more.
func TestStage9ManyDistinct(t *testing.T) {
	for sort, more := range map[string]int{"U": 0, bitsOf(7): 0, "Int": 4, "Real": 4} {
		for n := 2; n <= impl.MaxKids; n++ {
			b := bankWith(t, slices.Repeat([]string{sort}, n), term(impl.OpDistinct, "Bool", upTo(n)...))
			pairs := n * (n - 1) / 2
			want := 2 + n + pairs*(3+more) - 1
			l := checkLower(t, b, n)
			if l.Ok != (want <= impl.MaxTerms) || l.Ok && len(l.Bank.Terms) != want {
				t.Errorf("%d of sort %s: %v, %d terms, want %d", n, sort, l.Ok, len(l.Bank.Terms), want)
			}
		}
	}
}

// Arrays of one sort with many indexes: each index at each array.
func TestStage9ManyIndexes(t *testing.T) {
	for _, n := range []int{1, 2, 7, 20, 30, 40} {
		sort := arrayOf("U", "U")
		g := &growing{t: t, bank: bankWith(t, append(slices.Repeat([]string{"U"}, n), sort, sort))}
		last := n + 1
		var reads []int
		for i := range n {
			reads = append(reads, g.op(impl.OpEq, "Bool", 0, g.op(impl.OpSelect, "U", n, i)))
		}
		last = g.op(impl.OpStore, sort, last, 0, n/2)
		last = g.op(impl.OpStore, sort, last, n-1, 0)
		reads = append(reads, g.op(impl.OpEq, "Bool", 0, g.op(impl.OpSelect, "U", last, 0)))
		l := checkLower(t, g.bank, reads...)
		if !l.Ok || len(l.Roots) != 2*n || len(l.Shared) != 0 {
			t.Errorf("%d indexes: %v, %d roots, %d shared", n, l.Ok, len(l.Roots), len(l.Shared))
		}
		selects := 0
		for _, x := range l.Bank.Terms {
			if x.Op == impl.OpSelect {
				selects++
			}
		}
		if selects != 4*n {
			t.Errorf("%d indexes: %d selects", n, selects)
		}
	}
	for _, stores := range []int{40, 400, 497, 498, 900} {
		sort := arrayOf("U", "U")
		b := bankWith(t, []string{"U", "U", sort})
		for range stores {
			b.Terms = append(b.Terms, term(impl.OpStore, sort, len(b.Terms)-1, 0, 1))
		}
		b.Terms = append(b.Terms, term(impl.OpEq, "Bool", 2, len(b.Terms)-1))
		// Beside the bank: the fresh index with five terms for it, and for each array two selects (less the two of that index
		// that were there); for each store an OpEq at its own index, and at the other one an OpEq and an OpOr; one OpEq of indexes.
		want := 2 + len(b.Terms) + 6 + 2*(stores+1) - 2 + 3*stores + 1
		l := checkLower(t, b, len(b.Terms)-1)
		if l.Ok != (want <= impl.MaxTerms) || l.Ok && (len(l.Bank.Terms) != want || len(l.Roots) != 1+2*stores) {
			t.Errorf("%d stores: %v, %d terms, want %d, %d roots", stores, l.Ok, len(l.Bank.Terms), want, len(l.Roots))
		}
	}
}

// Calls whose kids are few: the pairs are many, the equations are not.
func TestStage9ManyCalls(t *testing.T) {
	const n = 9
	word := bitsOf(5)
	b := bankWith(t, slices.Repeat([]string{word}, n))
	b.Funs = append(b.Funs, impl.Fun{Name: "f", Args: []string{word, word, word}, Sort: "Bool"})
	var roots []int
	for i := range n * n * n {
		roots = append(roots, len(b.Terms))
		b.Terms = append(b.Terms, impl.Term{Op: impl.OpApp, Sort: "Bool", Text: "f", Kids: []int{i % n, i / n % n, i / n / n}})
	}
	if l := checkLower(t, b, roots...); !l.Ok || len(l.Shared) != n*(n-1) || len(l.Roots) != 0 {
		t.Errorf("%v, %d shared", l.Ok, len(l.Shared))
	}
}

// Banks that are not good, roots that are none or of no Bool term, and names that begin with ".".
func TestStage9WrongInputs(t *testing.T) {
	isZero := func(l impl.Lowered) bool {
		return !l.Ok && sameBank(l.Bank, impl.Bank{}) && len(l.To) == 0 && len(l.Roots) == 0 && len(l.Shared) == 0
	}
	for _, b := range noBanks(t) {
		for _, roots := range [][]int{nil, {0}, {2, 3}, {-1}, {len(b.Terms) - 1}, {len(b.Terms)}} {
			if l := checkLower(t, b, roots...); !isZero(l.Lowered) {
				t.Errorf("%s is lowered", shortBank(b))
			}
		}
	}
	b := bankMix(t)
	bools := boolTerms(b)
	if !checkLower(t, b, bools...).Ok {
		t.Fatal("Bool terms are roots")
	}
	for _, id := range append(upTo(len(b.Terms)), -1, -2, len(b.Terms), len(b.Terms)+1, 1<<62, 1<<63-1, -1<<63) {
		if slices.Contains(bools, id) {
			continue
		}
		for place := range min(len(bools), 3) + 1 {
			if l := checkLower(t, b, slices.Insert(slices.Clone(bools[:min(len(bools), 3)]), place, id)...); !isZero(l.Lowered) {
				t.Errorf("root %d is taken", id)
			}
		}
	}
	for _, id := range []int{-1, 0, 1} {
		if l := checkLower(t, impl.Bank{}, id); !isZero(l.Lowered) {
			t.Errorf("root %d of no terms", id)
		}
	}
	for _, name := range []string{".", ".0", ".7", ".x", "..", ". x", "." + strings.Repeat("a", impl.MaxSym-1)} {
		own := impl.Bank{Sorts: []string{"U", name}, Terms: impl.NewBank().Terms}
		first := impl.Bank{Sorts: []string{name, "U"}, Terms: impl.NewBank().Terms}
		fun := impl.Bank{Funs: []impl.Fun{{Name: "f", Sort: "Int"}, {Name: name, Sort: "Bool"}}, Terms: append(impl.NewBank().Terms, constant(name, "Bool"))}
		args := impl.Bank{Funs: []impl.Fun{{Name: name, Args: []string{"Int"}, Sort: "Bool"}, {Name: "f", Sort: "Int"}}, Terms: impl.NewBank().Terms}
		for _, bank := range []impl.Bank{own, first, fun, args} {
			for _, roots := range [][]int{nil, {0}} {
				if l := checkLower(t, bank, roots...); !impl.GoodBank(bank) || !isZero(l.Lowered) {
					t.Errorf("%q is lowered", name)
				}
			}
		}
	}
	for _, name := range []string{"a.", "0.", "a.b", " .", "_."} {
		bank := impl.Bank{Sorts: []string{name}, Funs: []impl.Fun{{Name: name + "f", Sort: "Bool"}}, Terms: []impl.Term{constant(name+"f", "Bool")}}
		if !checkLower(t, bank, 0).Ok {
			t.Errorf("%q is not lowered", name)
		}
	}
	lowered, _ := lowerText(t, declaredMix+asserted("(= x (ite p y 3))"))
	if l := checkLower(t, lowered.Bank, 0); !isZero(l.Lowered) {
		t.Error("what is lowered is lowered again")
	}
}

// The lists of one answer share no memory with each other, nor with the answer of another call.
func TestStage9OwnMemory(t *testing.T) {
	read := parsed(t, declaredMix+asserted("(= x (ite p y 3))", "(< (f x) (mod y 5))", "(distinct a (store a x y))", "(g x u)"))
	b := read.Script.Bank
	var roots []int
	for _, c := range read.Script.Commands {
		roots = append(roots, c.Ids...)
	}
	want := checkLower(t, b, roots...)
	lists := func(l *impl.Lowered) []*[]int {
		all := []*[]int{&l.To, &l.Roots, &l.Shared}
		for i := range l.Bank.Terms {
			all = append(all, &l.Bank.Terms[i].Kids)
		}
		return all
	}
	wanted := lists(&want.Lowered)
	for i := range wanted {
		l := impl.Lower(b, roots)
		list := lists(&l)[i]
		for j := range (*list)[:cap(*list)] {
			(*list)[:cap(*list)][j] = -9
		}
		*list = *wanted[i]
		if !sameLowered(l, want.Lowered) {
			t.Errorf("list %d is shared", i)
		}
	}
	if len(want.Shared) == 0 || len(want.Roots) == 0 {
		t.Errorf("%d shared, %d roots", len(want.Shared), len(want.Roots))
	}
}
