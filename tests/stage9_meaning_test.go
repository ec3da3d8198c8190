package tests

import (
	"math/big"
	"math/rand"
	"slices"
	"strconv"
	"testing"

	"loop.example/g00007/impl"
)

// widened gives values to the fresh constants: what the terms of b that they are for are, and, for two arrays that are not the
// same, an index at which they are not.
func widened(b impl.Bank, m impl.Model, values []string, l plainLowered) impl.Model {
	wide := impl.Model{Interps: slices.Clone(m.Interps)}
	fresh := l.Bank.Funs[len(b.Funs):]
	for i, f := range l.meant {
		value := impl.FirstValue(b.Sorts, fresh[i].Sort)
		switch {
		case f.choice >= 0:
			value = values[f.choice]
		case f.divisor != "":
			dividend, _ := new(big.Int).SetString(values[f.dividend], 10)
			divisor, _ := new(big.Int).SetString(f.divisor, 10)
			quotient, _ := new(big.Int).DivMod(dividend, divisor, new(big.Int))
			value = quotient.String()
		}
		wide.Interps = append(wide.Interps, fixed(fresh[i].Name, value))
	}
	images := impl.Eval(l.Bank, wide)
	for i, f := range l.meant {
		if f.isIndex() && len(images) > 0 {
			wide.Interps[len(b.Funs)+i].Rest = partedAt(b.Sorts, l.Bank.Terms[f.arrays[0]].Sort, images[f.arrays[0]], images[f.arrays[1]])
		}
	}
	return wide
}

// partedAt is an index at which two arrays give other values, if there is one.
func partedAt(own []string, sort, a, b string) string {
	index := impl.ReadSort(own, sort).Index
	ats := append(cutArray(a).ats, cutArray(b).ats...)
	for n := range 2*impl.EntryMax + 1 {
		for _, at := range []string{strconv.Itoa(n), "@" + strconv.Itoa(n), "#b" + strconv.FormatInt(int64(n), 2)} {
			if impl.IsValue(own, index, at) {
				ats = append(ats, at)
			}
		}
	}
	ats = append(ats, impl.FirstValue(own, index))
	for _, at := range ats {
		if impl.ArrayGet(own, sort, a, at) != impl.ArrayGet(own, sort, b, at) {
			return at
		}
	}
	return ats[len(ats)-1]
}

// mustBeAsTold asks that each term of b that is reached has the value of its image.
func mustBeAsTold(t *testing.T, b impl.Bank, values []string, l plainLowered, images []string) {
	t.Helper()
	for id, to := range l.To {
		if to >= 0 && images[to] != values[id] {
			t.Fatalf("term %d, %s, is %s, its image %s is %s", id, short(impl.TermText(b, id)), short(values[id]), short(impl.TermText(l.Bank, to)), short(images[to]))
		}
	}
}

// checkTold is what the chapter says at its end: the model becomes one of Bank in which all Roots hold; and where they hold,
// whatever the fresh constants are, terms have the values of their images. It says whether the model is one with values.
func checkTold(t *testing.T, r *rand.Rand, b impl.Bank, l plainLowered, m impl.Model) bool {
	t.Helper()
	values := impl.Eval(b, m)
	for id, to := range l.To {
		if to >= 0 && (values[id] == "" || len(values[id]) > impl.ValueMax) {
			return false
		}
	}
	wide := widened(b, m, values, l)
	if !impl.GoodModel(l.Bank, wide) {
		t.Fatalf("%s: no good model", shortBank(b))
	}
	images := impl.Eval(l.Bank, wide)
	for _, root := range l.Roots {
		if images[root] != "true" {
			t.Fatalf("%s: %s does not hold", shortBank(b), impl.TermText(l.Bank, root))
		}
	}
	mustBeAsTold(t, b, values, l, images)
	for i, f := range l.meant {
		if r.Intn(len(l.meant)) > 5 {
			continue
		}
		other := wide.Interps[len(b.Funs)+i]
		was := other.Rest
		other.Rest = drawValue(r, b.Sorts, l.Bank.Funs[len(b.Funs)+i].Sort)
		changed := impl.Model{Interps: slices.Clone(wide.Interps)}
		changed.Interps[len(b.Funs)+i] = other
		if other.Rest == was || !impl.Holds(l.Bank, changed, l.Roots) {
			continue
		}
		if !f.isIndex() {
			t.Fatalf("%s: %s may be %s and %s", shortBank(b), other.Name, short(was), short(other.Rest))
		}
		mustBeAsTold(t, b, values, l, impl.Eval(l.Bank, changed))
	}
	return true
}

// Each quotient, of each sign, and all numbers nearby: the Roots hold of the right one alone.
func TestStage9AllQuotients(t *testing.T) {
	for _, divisor := range []int{-5, -4, -3, -2, -1, 1, 2, 3, 4, 5, 11} {
		g := numbersBank(t, "Int", 1)
		by := g.num("Int", strconv.Itoa(divisor))
		div, mod := g.op(impl.OpDiv, "Int", 0, by), g.op(impl.OpMod, "Int", 0, by)
		l := checkLower(t, g.bank, g.op(impl.OpLt, "Bool", div, mod))
		for x := -23; x <= 23; x++ {
			holding := 0
			for q := -25; q <= 25; q++ {
				wide := impl.Model{Interps: []impl.Interp{fixed("x0", strconv.Itoa(x)), fixed(".0", strconv.Itoa(q))}}
				if !impl.Holds(l.Bank, wide, l.Roots) {
					continue
				}
				holding++
				values, images := impl.Eval(g.bank, modelWith(strconv.Itoa(x))), impl.Eval(l.Bank, wide)
				if images[l.To[div]] != values[div] || images[l.To[mod]] != values[mod] || values[div] != strconv.Itoa(q) {
					t.Errorf("%d by %d: %s and %s, want %s and %s", x, divisor, images[l.To[div]], images[l.To[mod]], values[div], values[mod])
				}
			}
			if holding != 1 {
				t.Errorf("%d by %d: %d quotients", x, divisor, holding)
			}
		}
	}
}

// someValues are three values of any sort.
func someValues(sort string) []string {
	info := impl.ReadSort(valueOwn(), sort)
	switch info.Kind {
	case impl.SortBits:
		return []string{wordText(info.Width, 0), wordText(info.Width, 1), wordText(info.Width, 1<<info.Width-1)}
	case impl.SortOwn:
		return []string{"@0", "@1", "@7"}
	case impl.SortArray:
		index, elem := someValues(info.Index), someValues(info.Elem)
		return []string{"{" + elem[0] + "}", "{" + elem[1] + ";" + index[1] + "=" + elem[0] + "}", "{" + elem[0] + ";" + index[1] + "=" + elem[2] + "}"}
	}
	return []string{"0", "1", "-3"}
}

var loweredSorts = []string{"Int", "Real", "U", "|a b|", bitsOf(2), bitsOf(33), arrayOf("Int", "Int"), arrayOf("U", bitsOf(2)), arrayOf(bitsOf(2), "|a b|"), arrayOf("Real", "U")}

// A choice of two values of each sort: the Roots hold of the chosen one alone (with some indexes, where they are arrays).
func TestStage9AllChoices(t *testing.T) {
	for _, sort := range loweredSorts {
		g := &growing{t: t, bank: bankWith(t, []string{"Bool", sort, sort})}
		choice := g.op(impl.OpIte, sort, 0, 1, 2)
		l := checkLower(t, g.bank, g.op(impl.OpEq, "Bool", choice, 1))
		for i := range 27 * 2 {
			some := someValues(sort)
			then, other, x, when := some[i%3], some[i/3%3], some[i/9%3], []string{"true", "false"}[i/27]
			m := modelWith(when, then, other)
			want := then
			if when == "false" {
				want = other
			}
			wide := widened(g.bank, m, slices.Repeat([]string{x}, choice+1), l)
			if impl.Holds(l.Bank, wide, l.Roots) != (x == want) {
				t.Errorf("%s: (ite %s %s %s) is %s", sort, when, then, other, x)
			}
			if got := impl.Eval(l.Bank, wide)[l.To[choice]]; got != x {
				t.Errorf("%s: the image is %s", sort, got)
			}
		}
	}
}

// Two arrays of each sort: the Roots hold where the arrays are the same, or give other values at the fresh index.
func TestStage9AllIndexes(t *testing.T) {
	for _, index := range []string{"Int", "Real", "U", bitsOf(2)} {
		sort := arrayOf(index, "|a b|")
		l := checkLower(t, bankWith(t, []string{sort, sort}, term(impl.OpEq, "Bool", 0, 1)), 2)
		for i := range 27 {
			a, b, y := someValues(sort)[i%3], someValues(sort)[i/3%3], someValues(index)[i/9]
			wide := modelWith(a, b)
			wide.Interps = append(wide.Interps, fixed(".0", y))
			want := a == b || impl.ArrayGet(valueOwn(), sort, a, y) != impl.ArrayGet(valueOwn(), sort, b, y)
			if len(l.Roots) != 1 || impl.Holds(l.Bank, wide, l.Roots) != want {
				t.Errorf("%s: %s and %s at %s", sort, a, b, y)
			}
		}
	}
}

// OpDistinct and OpEq of two to four of all values in a small list.
func TestStage9AllDistinct(t *testing.T) {
	r := rand.New(rand.NewSource(90))
	for _, sort := range append([]string{"Bool"}, loweredSorts...) {
		some := someValues(sort)
		if sort == "Bool" {
			some = []string{"false", "true", "false"}
		}
		for n, models := range []int{2: 9, 3: 27, 4: 81} {
			if models == 0 {
				continue
			}
			g := &growing{t: t, bank: bankWith(t, slices.Repeat([]string{sort}, n))}
			all := g.op(impl.OpDistinct, "Bool", upTo(n)...)
			l := checkLower(t, g.bank, all, g.op(impl.OpEq, "Bool", 0, n-1), g.op(impl.OpDistinct, "Bool", n-1, 0))
			for i := range models {
				if !checkTold(t, r, g.bank, l, modelWith([]string{some[i%3], some[i/3%3], some[i/9%3], some[i/27]}[:n]...)) {
					t.Fatal("a value that is none")
				}
			}
		}
	}
}

// boolTerms are the terms of a bank that may be roots.
func boolTerms(b impl.Bank) []int {
	var ids []int
	for id, x := range b.Terms {
		if x.Sort == "Bool" {
			ids = append(ids, id)
		}
	}
	return ids
}

// drawnFrom begins a drawn bank: the functions, and two constants of each sort. What it hands out with it draws one of its terms
// by the sort, a late one rather than an early one.
func drawnFrom(r *rand.Rand, sorts []string, funs ...impl.Fun) (h *termHeap, of func(sort string) int) {
	b := impl.NewBank()
	b.Sorts, b.Funs = valueOwn(), funs
	for i, sort := range append(slices.Clone(sorts), sorts...) {
		b.Funs = append(b.Funs, impl.Fun{Name: "c" + strconv.Itoa(i), Sort: sort})
		b.Terms = append(b.Terms, constant("c"+strconv.Itoa(i), sort))
	}
	h = heapOn(b)
	return h, func(sort string) int {
		for {
			if id := max(r.Intn(len(h.bank.Terms)), r.Intn(len(h.bank.Terms))); h.bank.Terms[id].Sort == sort {
				return id
			}
		}
	}
}

// drawTold draws a bank of terms that are told by others, deep within each other.
func drawTold(r *rand.Rand, steps int) impl.Bank {
	sorts := []string{"Bool", "Int", "Real", "U", bitsOf(2), longArray, arrayOf("U", bitsOf(2)), arrayOf(bitsOf(2), "U"), arrayOf("Real", "Int")}
	h, of := drawnFrom(r, sorts, impl.Fun{Name: "f", Args: []string{"Int"}, Sort: "Int"}, impl.Fun{Name: "g", Args: []string{"U", bitsOf(2)}, Sort: "Real"}, impl.Fun{Name: "h", Args: []string{"Int", "U", "Real"}, Sort: "U"}, impl.Fun{Name: "q", Args: []string{bitsOf(2), "Int"}, Sort: "Bool"}, impl.Fun{Name: "w", Args: []string{bitsOf(2)}, Sort: bitsOf(2)})
	b := h.bank
	for range steps {
		sort := sorts[r.Intn(len(sorts))]
		array := sorts[5+r.Intn(4)]
		info := impl.ReadSort(b.Sorts, array)
		switch r.Intn(9) {
		case 0:
			h.op(impl.OpIte, sort, of("Bool"), of(sort), of(sort))
		case 1:
			h.op(impl.OpDiv+r.Intn(2), "Int", of("Int"), h.add(numeral("Int", []string{"1", "-1", "2", "-2", "3", "-7"}[r.Intn(6)])))
		case 2:
			h.op(impl.OpEq, "Bool", of(sort), of(sort))
		case 3:
			h.op(impl.OpDistinct, "Bool", []int{of(sort), of(sort), of(sort)}[:2+r.Intn(2)]...)
		case 4:
			h.op(impl.OpSelect, info.Elem, of(array), of(info.Index))
		case 5:
			h.op(impl.OpStore, array, of(array), of(info.Index), of(info.Elem))
		case 6:
			f := b.Funs[r.Intn(5)]
			var kids []int
			for _, arg := range f.Args {
				kids = append(kids, of(arg))
			}
			h.add(impl.Term{Op: impl.OpApp, Sort: f.Sort, Text: f.Name, Kids: kids})
		case 7:
			h.op(impl.OpAnd+r.Intn(2), "Bool", of("Bool"), of("Bool"))
		case 8:
			h.op(impl.OpLe+r.Intn(4), "Bool", of("Int"), of("Int"))
		}
	}
	return h.bank
}

// Drawn banks, by the last of their Bool terms.
func TestStage9DrawnTold(t *testing.T) {
	r := rand.New(rand.NewSource(91))
	lowered, asked, indexes, quotients, choices, shared := 0, 0, 0, 0, 0, 0
	for range 250 {
		b := drawTold(r, 10+r.Intn(50))
		bools := boolTerms(b)
		roots := bools[max(0, len(bools)-1-r.Intn(4)):]
		l := checkLower(t, b, roots...)
		if !l.Ok {
			continue
		}
		lowered++
		shared += len(l.Shared)
		for _, f := range l.meant {
			switch {
			case f.isIndex():
				indexes++
			case f.divisor != "":
				quotients++
			default:
				choices++
			}
		}
		for range 4 {
			if checkTold(t, r, b, l, drawModel(r, b)) {
				asked++
			}
		}
	}
	if lowered < 100 || asked < 200 || indexes < 100 || quotients < 50 || choices < 100 || shared < 500 {
		t.Errorf("%d lowered, %d models, %d indexes, %d quotients, %d choices, %d shared", lowered, asked, indexes, quotients, choices, shared)
	}
}

// Drawn scripts, by all that they assert or assume.
func TestStage9DrawnScripts(t *testing.T) {
	r := rand.New(rand.NewSource(92))
	lowered, asked := 0, 0
	for range 300 {
		d := &scriptDraw{r: r}
		read := impl.ParseScript(d.script(4 + r.Intn(8)))
		if read.Err != impl.LangOk {
			continue
		}
		var roots []int
		for _, c := range read.Script.Commands {
			if c.Kind == impl.CmdAssert || c.Kind == impl.CmdCheck {
				roots = append(roots, c.Ids...)
			}
		}
		b := read.Script.Bank
		l := checkLower(t, b, roots...)
		if !l.Ok {
			continue
		}
		lowered++
		for range 3 {
			if checkTold(t, r, b, l, drawModel(r, b)) {
				asked++
			}
		}
	}
	if lowered < 100 || asked < 150 {
		t.Errorf("%d lowered, %d models", lowered, asked)
	}
}

// Drawn banks, simplified first, as they are when something is solved, and banks that are lowered and simplified then.
func TestStage9Simplified(t *testing.T) {
	r := rand.New(rand.NewSource(93))
	asked := 0
	for range 60 {
		b := drawTold(r, 10+r.Intn(40))
		s := impl.Simplify(b)
		if !s.Ok {
			continue
		}
		bools := boolTerms(b)
		l := checkLower(t, s.Bank, s.To[bools[len(bools)-1]])
		if !l.Ok {
			continue
		}
		if m := drawModel(r, b); checkTold(t, r, s.Bank, l, m) {
			asked++
			after := impl.Simplify(l.Bank)
			wide := widened(s.Bank, m, impl.Eval(s.Bank, m), l)
			for _, root := range l.Roots {
				if after.Ok && !impl.Holds(after.Bank, wide, []int{after.To[root]}) {
					t.Fatalf("%s does not hold", impl.TermText(after.Bank, after.To[root]))
				}
			}
		}
	}
	if asked < 20 {
		t.Errorf("%d models", asked)
	}
}
