package tests

import (
	"math/rand"
	"reflect"
	"slices"
	"strconv"
	"strings"
	"testing"

	"loop.example/g00007/impl"
)

// copied is a bank of its own memory, with nil for each empty list: two banks are the same if these are.
func copied(b impl.Bank) impl.Bank {
	c := impl.Bank{Sorts: append([]string(nil), b.Sorts...)}
	for _, f := range b.Funs {
		f.Args = append([]string(nil), f.Args...)
		c.Funs = append(c.Funs, f)
	}
	for _, x := range b.Terms {
		x.Kids = append([]int(nil), x.Kids...)
		c.Terms = append(c.Terms, x)
	}
	return c
}

func sameBank(a, b impl.Bank) bool {
	return reflect.DeepEqual(copied(a), copied(b))
}

// spoil writes over all that a bank's lists hold, behind their ends too.
func spoil(b impl.Bank) {
	for i := range b.Funs {
		args := b.Funs[i].Args[:cap(b.Funs[i].Args)]
		for j := range args {
			args[j] = "spoilt"
		}
	}
	for i := range b.Terms {
		kids := b.Terms[i].Kids[:cap(b.Terms[i].Kids)]
		for j := range kids {
			kids[j] = -7
		}
	}
	for i := range b.Sorts[:cap(b.Sorts)] {
		b.Sorts[:cap(b.Sorts)][i] = "spoilt"
	}
	for i := range b.Funs[:cap(b.Funs)] {
		b.Funs[:cap(b.Funs)][i] = impl.Fun{Name: "spoilt"}
	}
	for i := range b.Terms[:cap(b.Terms)] {
		b.Terms[:cap(b.Terms)][i] = impl.Term{Op: -1}
	}
}

// added does one step on a bank and looks at all that holds whatever the step: b is as before, the answer is a copy of
// its own, and without an Err it is good and has b within it.
func added(t *testing.T, b impl.Bank, step func(impl.Bank) impl.BankRes) impl.BankRes {
	t.Helper()
	kept := copied(b)
	r := step(b)
	answer := copied(r.Bank)
	if !sameBank(b, kept) {
		t.Fatalf("the bank that was handed in is changed: %+v, was %+v", b, kept)
	}
	spoil(r.Bank)
	if !sameBank(b, kept) {
		t.Fatalf("the answer shares memory with the bank: %+v", b)
	}
	r.Bank = answer
	if r.Err == impl.BankBad {
		if r.Id != 0 || !sameBank(answer, impl.Bank{}) {
			t.Fatalf("BankBad with more: %+v", r)
		}
		return r
	}
	if r.Err != impl.BankOk {
		if r.Id != 0 || !sameBank(answer, kept) {
			t.Fatalf("Err %d, Id %d, and no copy of the bank: %+v", r.Err, r.Id, answer)
		}
		return r
	}
	if !impl.GoodBank(answer) {
		t.Fatalf("no good bank: %+v", answer)
	}
	begun := impl.Bank{Sorts: answer.Sorts[:len(b.Sorts)], Funs: answer.Funs[:len(b.Funs)], Terms: answer.Terms[:len(b.Terms)]}
	if !sameBank(begun, kept) {
		t.Fatalf("what was there is not where it was: %+v, was %+v", answer, kept)
	}
	return r
}

func addSort(t *testing.T, b impl.Bank, name string, err int) impl.Bank {
	t.Helper()
	r := added(t, b, func(b impl.Bank) impl.BankRes { return impl.AddSort(b, name) })
	if r.Err != err {
		t.Fatalf("AddSort(%q): Err %d, want %d", name, r.Err, err)
	}
	if err == impl.BankOk {
		want := copied(b)
		want.Sorts = append(want.Sorts, name)
		if r.Id != len(b.Sorts) || !sameBank(r.Bank, want) {
			t.Fatalf("AddSort(%q): Id %d, %+v", name, r.Id, r.Bank)
		}
	}
	return r.Bank
}

func addFun(t *testing.T, b impl.Bank, f impl.Fun, err int) impl.Bank {
	t.Helper()
	args := slices.Clone(f.Args)
	r := added(t, b, func(b impl.Bank) impl.BankRes { return impl.AddFun(b, f) })
	if r.Err != err {
		t.Fatalf("AddFun(%+v): Err %d, want %d", f, r.Err, err)
	}
	if !slices.Equal(args, f.Args) {
		t.Fatalf("AddFun(%+v): the Args are changed, or shared with the answer", f)
	}
	if err == impl.BankOk {
		want := copied(b)
		want.Funs = append(want.Funs, f)
		if r.Id != len(b.Funs) || !sameBank(r.Bank, want) {
			t.Fatalf("AddFun(%+v): Id %d, %+v", f, r.Id, r.Bank)
		}
	}
	return r.Bank
}

// addTerm is for terms that are new and those that are there: id is where the term must be.
func addTerm(t *testing.T, b impl.Bank, x impl.Term, id, err int) impl.Bank {
	t.Helper()
	kids := slices.Clone(x.Kids)
	r := added(t, b, func(b impl.Bank) impl.BankRes { return impl.AddTerm(b, x) })
	if r.Err != err || r.Id != id {
		t.Fatalf("AddTerm(%+v): Err %d, Id %d, want %d, %d", x, r.Err, r.Id, err, id)
	}
	if !slices.Equal(kids, x.Kids) {
		t.Fatalf("AddTerm(%+v): the Kids are changed, or shared with the answer", x)
	}
	want := copied(b)
	if err == impl.BankOk && id == len(b.Terms) {
		want.Terms = append(want.Terms, x)
	}
	if err != impl.BankBad && !sameBank(r.Bank, want) {
		t.Fatalf("AddTerm(%+v): %+v", x, r.Bank)
	}
	return r.Bank
}

func constant(name, sort string) impl.Term {
	return impl.Term{Op: impl.OpApp, Sort: sort, Text: name}
}

func numeral(sort, text string) impl.Term {
	return impl.Term{Op: impl.OpNum, Sort: sort, Text: text}
}

func term(op int, sort string, kids ...int) impl.Term {
	return impl.Term{Op: op, Sort: sort, Kids: kids}
}

// manyNames is a good bank of n names, the sorts first.
func manyNames(sorts, funs int) impl.Bank {
	b := impl.NewBank()
	for i := range sorts {
		b.Sorts = append(b.Sorts, "s"+strconv.Itoa(i))
	}
	for i := range funs {
		b.Funs = append(b.Funs, impl.Fun{Name: "f" + strconv.Itoa(i), Sort: "Int"})
	}
	return b
}

// manyTerms is a good bank of n numbers.
func manyTerms(n int) impl.Bank {
	var b impl.Bank
	for i := range n {
		b.Terms = append(b.Terms, numeral("Int", strconv.Itoa(i)))
	}
	return b
}

func TestStage4NewBank(t *testing.T) {
	want := impl.Bank{Terms: []impl.Term{term(impl.OpTrue, "Bool"), term(impl.OpFalse, "Bool")}}
	b := impl.NewBank()
	if !sameBank(b, want) || !impl.GoodBank(b) {
		t.Errorf("NewBank: %+v", b)
	}
	spoil(b)
	if !sameBank(impl.NewBank(), want) {
		t.Error("two new banks share memory")
	}
	if !impl.GoodBank(impl.Bank{}) {
		t.Error("a good bank need not have OpTrue and OpFalse")
	}
	if !impl.GoodBank(impl.Bank{Sorts: []string{}, Funs: []impl.Fun{{Name: "f", Args: []string{}, Sort: "Bool"}}, Terms: []impl.Term{{Op: impl.OpFalse, Sort: "Bool", Kids: []int{}}}}) {
		t.Error("an empty list is no other value than nil")
	}
	addTerm(t, impl.Bank{}, term(impl.OpFalse, "Bool"), 0, impl.BankOk)
	addTerm(t, want, impl.Term{Op: impl.OpFalse, Sort: "Bool", Kids: []int{}}, 1, impl.BankOk)
}

// Symbols, as names of sorts and of functions.
func TestStage4Symbols(t *testing.T) {
	wrong := append(strings.Fields(takenSymbols), "", "|", "\\", "a|b", "a\\", "bv", "bv1", "bvadd", "bv b", "bv_", strings.Repeat("n", impl.MaxSym+1),
		"bv"+strings.Repeat("n", impl.MaxSym-2), "é", "a\n", "\t", "a\x00", "\x80", strings.Repeat("n", 100000))
	right := append(oddSymbols(), "assert", "Bv", "b", "v", "xbv", " bv", "BV", "true ", "Set", "declare-fun", ".1", "!", "__", "--", "===", "ites", "repeats", "bool")
	for c := range 256 {
		name := string([]byte{byte(c)})
		isRight := c >= 32 && c <= 126 && c != '|' && c != '\\' && !slices.Contains(strings.Fields(takenSymbols), name)
		if isRight {
			right = append(right, name)
		} else {
			wrong = append(wrong, name)
		}
		if isRight || slices.Contains(strings.Fields(takenSymbols), name) {
			right = append(right, "a"+name, name+"a")
		} else {
			wrong = append(wrong, "a"+name, name+"a")
		}
	}
	for _, name := range right {
		if name == "as" {
			continue
		}
		b := addSort(t, impl.NewBank(), name, impl.BankOk)
		addSort(t, b, name, impl.BankName)
		addFun(t, b, impl.Fun{Name: name, Sort: "Int"}, impl.BankName)
		b = addFun(t, impl.NewBank(), impl.Fun{Name: name, Sort: "Int"}, impl.BankOk)
		addSort(t, b, name, impl.BankName)
		addFun(t, b, impl.Fun{Name: name, Sort: "Bool"}, impl.BankName)
		b = addTerm(t, b, constant(name, "Int"), 2, impl.BankOk)
		addTerm(t, b, constant("|"+name+"|", "Int"), 0, impl.BankTerm)
	}
	for _, name := range wrong {
		addSort(t, impl.NewBank(), name, impl.BankName)
		addFun(t, impl.NewBank(), impl.Fun{Name: name, Sort: "Int"}, impl.BankName)
		if impl.GoodBank(impl.Bank{Sorts: []string{name}}) || impl.GoodBank(impl.Bank{Funs: []impl.Fun{{Name: name, Sort: "Int"}}}) {
			t.Errorf("%q names a sort or a function", short(name))
		}
	}
}

func TestStage4FunSorts(t *testing.T) {
	b := impl.Bank{Sorts: []string{"U", "a b", "1"}}
	parts := []string{"Int", "Real", "U", "|a b|", "|1|", "(_ BitVec 1)", "(_ BitVec 64)"}
	arrays := []string{"(Array U Int)", "(Array |a b| |1|)", "(Array (_ BitVec 3) U)"}
	wrong := []string{"", "V", "|U|", "a b", "1", "|1", "(_ BitVec 0)", "(_ BitVec 65)", "(Array U Bool)", "(Array Bool U)", "(Array U (Array U U))", "int"}
	for _, sort := range slices.Concat(parts, arrays, []string{"Bool"}) {
		addFun(t, b, impl.Fun{Name: "f", Sort: sort}, impl.BankOk)
	}
	for _, arg := range parts {
		for _, sort := range append(parts, "Bool") {
			addFun(t, b, impl.Fun{Name: "f", Args: []string{arg}, Sort: sort}, impl.BankOk)
		}
		for _, sort := range append(arrays, wrong...) {
			addFun(t, b, impl.Fun{Name: "f", Args: []string{arg}, Sort: sort}, impl.BankSort)
		}
	}
	for _, sort := range wrong {
		addFun(t, b, impl.Fun{Name: "f", Sort: sort}, impl.BankSort)
	}
	for _, arg := range slices.Concat(arrays, wrong, []string{"Bool"}) {
		for n := range impl.MaxArgs {
			args := slices.Repeat([]string{"Int"}, impl.MaxArgs)
			args[n] = arg
			addFun(t, b, impl.Fun{Name: "f", Args: args, Sort: "Int"}, impl.BankSort)
			if impl.GoodBank(impl.Bank{Sorts: b.Sorts, Funs: []impl.Fun{{Name: "f", Args: args, Sort: "Int"}}}) {
				t.Errorf("an argument of sort %q", arg)
			}
		}
	}
	for n := range impl.MaxArgs + 1 {
		addFun(t, b, impl.Fun{Name: "f", Args: slices.Repeat([]string{"U"}, n), Sort: "U"}, impl.BankOk)
	}
	addFun(t, b, impl.Fun{Name: "f", Args: slices.Repeat([]string{"U"}, impl.MaxArgs+1), Sort: "U"}, impl.BankSort)
}

func TestStage4ManyNames(t *testing.T) {
	for _, sorts := range []int{0, 1, 150, impl.MaxNames - 1} {
		b := manyNames(sorts, impl.MaxNames-1-sorts)
		addSort(t, b, "last", impl.BankOk)
		full := addFun(t, b, impl.Fun{Name: "last", Sort: "Bool"}, impl.BankOk)
		addSort(t, full, "more", impl.BankMany)
		addFun(t, full, impl.Fun{Name: "more", Sort: "Bool"}, impl.BankMany)
		addSort(t, full, "last", impl.BankName)
		addSort(t, full, "bv", impl.BankName)
		addFun(t, full, impl.Fun{Name: "last", Sort: "Bool"}, impl.BankName)
		addFun(t, full, impl.Fun{Name: "more", Sort: "V"}, impl.BankSort)
		addTerm(t, full, constant("last", "Bool"), 2, impl.BankOk)
	}
	for _, b := range []impl.Bank{manyNames(0, impl.MaxNames+1), manyNames(impl.MaxNames+1, 0), manyNames(impl.MaxNames, 1)} {
		checkNoBank(t, b)
	}
}

func TestStage4ManyTerms(t *testing.T) {
	b := manyTerms(impl.MaxTerms - 1)
	full := addTerm(t, b, numeral("Int", "-1"), impl.MaxTerms-1, impl.BankOk)
	addTerm(t, full, numeral("Int", "-2"), 0, impl.BankMany)
	addTerm(t, full, term(impl.OpAdd, "Int", impl.MaxTerms-1, impl.MaxTerms-1), 0, impl.BankMany)
	addTerm(t, full, term(impl.OpAdd, "Int", impl.MaxTerms, 1), 0, impl.BankTerm)
	addTerm(t, full, numeral("Int", "-0"), 0, impl.BankTerm)
	addTerm(t, full, numeral("Int", "-1"), impl.MaxTerms-1, impl.BankOk)
	addTerm(t, full, numeral("Int", "0"), 0, impl.BankOk)
	addTerm(t, full, numeral("Int", "1234"), 1234, impl.BankOk)
	addSort(t, full, "U", impl.BankOk)
	checkNoBank(t, manyTerms(impl.MaxTerms+1))
	for _, id := range []int{0, 255, 256, 257, 2998} {
		b := impl.Bank{Terms: slices.Clone(full.Terms[:impl.MaxTerms-1])}
		b = addTerm(t, b, term(impl.OpNeg, "Int", id), impl.MaxTerms-1, impl.BankOk)
		addTerm(t, b, term(impl.OpNeg, "Int", id), impl.MaxTerms-1, impl.BankOk)
		addTerm(t, b, term(impl.OpNeg, "Int", (id+256)%2999), 0, impl.BankMany)
		addTerm(t, b, term(impl.OpNeg, "Int", (id+1)%2999), 0, impl.BankMany)
	}
}

// Of several faults the code with the lesser number is told, but BankTerm ahead of BankMany.
func TestStage4OrderOfCodes(t *testing.T) {
	five := slices.Repeat([]string{"Int"}, impl.MaxArgs+1)
	for _, b := range []impl.Bank{impl.NewBank(), manyNames(150, 150)} {
		addFun(t, b, impl.Fun{Name: "bv", Args: five, Sort: "V"}, impl.BankName)
		addFun(t, b, impl.Fun{Name: "|", Args: []string{"Bool"}, Sort: "V"}, impl.BankName)
		addFun(t, b, impl.Fun{Name: "more", Args: five, Sort: "Int"}, impl.BankSort)
		addFun(t, b, impl.Fun{Name: "more", Args: []string{"Int"}, Sort: "(Array Int Int)"}, impl.BankSort)
	}
	bad := manyTerms(impl.MaxTerms + 1)
	for _, r := range []impl.BankRes{impl.AddSort(bad, "bv"), impl.AddFun(bad, impl.Fun{}), impl.AddTerm(bad, impl.Term{}), impl.AddTerm(bad, numeral("Int", "0"))} {
		if r.Err != impl.BankBad || r.Id != 0 || !sameBank(r.Bank, impl.Bank{}) {
			t.Errorf("to no good bank: %d, %d", r.Err, r.Id)
		}
	}
	addTerm(t, manyTerms(impl.MaxTerms), impl.Term{}, 0, impl.BankTerm)
	addTerm(t, manyTerms(impl.MaxTerms), term(impl.OpNeg, "Int", -1), 0, impl.BankTerm)
}

// checkNoBank: all functions say of a bank that it is none.
func checkNoBank(t *testing.T, b impl.Bank) {
	t.Helper()
	if impl.GoodBank(b) {
		t.Errorf("good: %.300s", reflect.ValueOf(b))
	}
	steps := []func(impl.Bank) impl.BankRes{
		func(b impl.Bank) impl.BankRes { return impl.AddSort(b, "fresh") },
		func(b impl.Bank) impl.BankRes { return impl.AddFun(b, impl.Fun{Name: "fresh", Sort: "Int"}) },
		func(b impl.Bank) impl.BankRes { return impl.AddTerm(b, numeral("Int", "77")) },
		func(b impl.Bank) impl.BankRes { return impl.AddTerm(b, term(impl.OpTrue, "Bool")) },
	}
	for i, step := range steps {
		if r := added(t, b, step); r.Err != impl.BankBad {
			t.Errorf("step %d: Err %d", i, r.Err)
		}
	}
	if got := impl.Reached(b, []int{0}); len(got) != 0 {
		t.Errorf("reached in no good bank: %v", got)
	}
	if got := impl.Reached(b, nil); len(got) != 0 {
		t.Errorf("reached in no good bank from nothing: %v", got)
	}
}

func TestStage4NoBanks(t *testing.T) {
	base := func() impl.Bank {
		return impl.Bank{
			Sorts: []string{"U", "a b"},
			Funs:  []impl.Fun{{Name: "x", Sort: "Int"}, {Name: "f", Args: []string{"Int", "U"}, Sort: "|a b|"}, {Name: "u", Sort: "U"}},
			Terms: []impl.Term{term(impl.OpFalse, "Bool"), constant("x", "Int"), constant("u", "U"),
				{Op: impl.OpApp, Sort: "|a b|", Text: "f", Kids: []int{1, 2}}, numeral("Int", "5"), term(impl.OpMul, "Int", 4, 1), term(impl.OpEq, "Bool", 1, 5)},
		}
	}
	if !impl.GoodBank(base()) {
		t.Fatal("the bank that is spoilt below is good")
	}
	spoilers := []func(*impl.Bank){
		func(b *impl.Bank) { b.Sorts = append(b.Sorts, "U") },
		func(b *impl.Bank) { b.Sorts = append(b.Sorts, "x") },
		func(b *impl.Bank) { b.Sorts = append(b.Sorts, "Int") },
		func(b *impl.Bank) { b.Sorts = append(b.Sorts, "") },
		func(b *impl.Bank) { b.Sorts = b.Sorts[1:] },
		func(b *impl.Bank) { b.Sorts = b.Sorts[:1] },
		func(b *impl.Bank) { b.Sorts[1] = "|a b|" },
		func(b *impl.Bank) { b.Funs = append(b.Funs, impl.Fun{Name: "x", Sort: "Real"}) },
		func(b *impl.Bank) { b.Funs = append(b.Funs, impl.Fun{Name: "U", Sort: "Real"}) },
		func(b *impl.Bank) { b.Funs = append(b.Funs, impl.Fun{Name: "y"}) },
		func(b *impl.Bank) { b.Funs = append(b.Funs, impl.Fun{Name: "bvy", Sort: "Int"}) },
		func(b *impl.Bank) { b.Funs = b.Funs[1:] },
		func(b *impl.Bank) { b.Funs[0].Sort = "Real" },
		func(b *impl.Bank) { b.Funs[1].Args[1] = "Int" },
		func(b *impl.Bank) { b.Funs[1].Args = b.Funs[1].Args[:1] },
		func(b *impl.Bank) { b.Terms = append(b.Terms, constant("x", "Int")) },
		func(b *impl.Bank) { b.Terms = append(b.Terms, term(impl.OpMul, "Int", 4, 1)) },
		func(b *impl.Bank) {
			b.Terms = append(b.Terms, impl.Term{Op: impl.OpFalse, Sort: "Bool", Kids: []int{}})
		},
		func(b *impl.Bank) { b.Terms = append(b.Terms, impl.Term{}) },
		func(b *impl.Bank) { b.Terms[5].Kids[1] = 5 },
		func(b *impl.Bank) { b.Terms[5].Kids[1] = 6 },
		func(b *impl.Bank) { b.Terms[5].Kids[1] = -1 },
		func(b *impl.Bank) { b.Terms[6].Kids[0] = 7 },
		func(b *impl.Bank) { b.Terms[0].A = 1 },
		func(b *impl.Bank) { b.Terms[0].B = -1 },
		func(b *impl.Bank) { b.Terms[0].Text = "false" },
		func(b *impl.Bank) { b.Terms[0].Sort = "" },
		func(b *impl.Bank) { b.Terms[4].Text = "05" },
		func(b *impl.Bank) { b.Terms[5].Kids = []int{1, 4} },
		func(b *impl.Bank) { b.Terms[1], b.Terms[6] = b.Terms[6], b.Terms[1] },
		func(b *impl.Bank) { b.Terms = b.Terms[1:] },
	}
	for i, spoiler := range spoilers {
		b := base()
		spoiler(&b)
		checkNoBank(t, b)
		if t.Failed() {
			t.Fatalf("at spoiler %d", i)
		}
	}
}

func TestStage4Reached(t *testing.T) {
	b := impl.NewBank()
	b.Funs = []impl.Fun{{Name: "p", Sort: "Bool"}, {Name: "q", Sort: "Bool"}}
	b.Terms = append(b.Terms, constant("p", "Bool"), constant("q", "Bool"), term(impl.OpNot, "Bool", 3), term(impl.OpAnd, "Bool", 2, 4), term(impl.OpOr, "Bool", 0, 2), term(impl.OpXor, "Bool", 5, 5))
	for _, c := range []struct{ roots, want []int }{
		{nil, nil}, {[]int{0}, []int{0}}, {[]int{4}, []int{3, 4}}, {[]int{5}, []int{2, 3, 4, 5}}, {[]int{7}, []int{2, 3, 4, 5, 7}},
		{[]int{6, 4}, []int{0, 2, 3, 4, 6}}, {[]int{1, 1, 1}, []int{1}}, {[]int{7, 6, 1}, []int{0, 1, 2, 3, 4, 5, 6, 7}},
		{[]int{8}, nil}, {[]int{-1}, nil}, {[]int{0, 8}, nil}, {[]int{-1, 0}, nil}, {[]int{0, 1 << 62}, nil}, {[]int{0, -1 << 63}, nil},
	} {
		roots := slices.Clone(c.roots)
		kept := copied(b)
		got := impl.Reached(b, roots)
		if !slices.Equal(got, c.want) || !slices.Equal(roots, c.roots) || !sameBank(b, kept) {
			t.Errorf("Reached from %v: %v, want %v", c.roots, got, c.want)
		}
	}
	if got := impl.Reached(impl.Bank{}, []int{0}); len(got) != 0 {
		t.Errorf("reached in the empty bank: %v", got)
	}
}

// Drawn banks: what is reached is found by a plain search too, and is a bank's worth of terms again.
func TestStage4ReachedDrawn(t *testing.T) {
	r := rand.New(rand.NewSource(4))
	for range 300 {
		b := drawBank(r, 40)
		var roots []int
		for range r.Intn(4) {
			roots = append(roots, r.Intn(len(b.Terms)))
		}
		want := map[int]bool{}
		for work := slices.Clone(roots); len(work) > 0; {
			id := work[0]
			work = work[1:]
			if !want[id] {
				want[id] = true
				work = append(work, b.Terms[id].Kids...)
			}
		}
		got := impl.Reached(b, roots)
		if !slices.IsSorted(got) || len(got) != len(want) {
			t.Fatalf("Reached from %v: %v, want %v", roots, got, want)
		}
		for _, id := range got {
			if !want[id] {
				t.Fatalf("Reached from %v: %v, want %v", roots, got, want)
			}
		}
	}
}
