package tests

import (
	"fmt"
	"math/rand"
	"slices"
	"strconv"
	"strings"
	"testing"

	"loop.example/g00007/impl"
)

// A growing is a good bank to which terms are added one by one.
type growing struct {
	t    *testing.T
	bank impl.Bank
}

// add gives the index of the new term.
func (g *growing) add(x impl.Term) int {
	g.t.Helper()
	r := impl.AddTerm(g.bank, x)
	if r.Err != impl.BankOk {
		g.t.Fatalf("AddTerm(%+v): Err %d", x, r.Err)
	}
	g.bank = r.Bank
	return r.Id
}

func (g *growing) num(sort, text string) int {
	g.t.Helper()
	return g.add(numeral(sort, text))
}

func (g *growing) op(op int, sort string, kids ...int) int {
	g.t.Helper()
	return g.add(term(op, sort, kids...))
}

func (g *growing) call(name, sort string, kids ...int) int {
	g.t.Helper()
	return g.add(impl.Term{Op: impl.OpApp, Sort: sort, Text: name, Kids: kids})
}

// scaled is a number times 10 to the n (or over it), in steps of numerals.
func (g *growing) scaled(id int, sort string, n int, isOver bool) int {
	g.t.Helper()
	for n > 0 {
		step := min(n, impl.NumDigits-1)
		text := tenTo(step)
		if isOver {
			text = "1/" + text
		}
		id = g.op(impl.OpMul, sort, g.num(sort, text), id)
		n -= step
	}
	return id
}

// A longBank has terms that are numbers of IntDigits digits: most is all nines, least the same below 0, one the least number
// of so many digits. Its none has no value. A number that a model can give has at most ValueMax digits.
type longBank struct {
	growing
	p, x, u, array            int
	most, least, one, none    int
	realMost, quotient, under int
}

const longArray = "(Array Int Int)"

func makeLong(t *testing.T) (*longBank, impl.Model) {
	t.Helper()
	const more = impl.IntDigits - impl.ValueMax
	g := &longBank{growing: growing{t: t, bank: impl.NewBank()}}
	g.bank.Sorts = []string{"U"}
	g.bank.Funs = []impl.Fun{{Name: "p", Sort: "Bool"}, {Name: "x", Sort: "Int"}, {Name: "high", Sort: "Int"}, {Name: "low", Sort: "Int"}, {Name: "r", Sort: "Real"},
		{Name: "u", Sort: "U"}, {Name: "m", Sort: longArray}, {Name: "f", Args: []string{"Int"}, Sort: "Int"}, {Name: "g", Args: []string{"U", "Int"}, Sort: "Bool"}, {Name: "k", Args: []string{"Real"}, Sort: "U"}}
	g.p, g.x, g.u, g.array = g.call("p", "Bool"), g.call("x", "Int"), g.call("u", "U"), g.call("m", longArray)
	high, low := g.call("high", "Int"), g.call("low", "Int")
	g.most = g.op(impl.OpAdd, "Int", g.scaled(high, "Int", more, false), low)
	g.least = g.op(impl.OpNeg, "Int", g.most)
	ten := g.num("Int", "10")
	g.one = g.scaled(ten, "Int", impl.IntDigits-2, false)
	g.none = g.op(impl.OpMul, "Int", ten, g.one)
	g.realMost = g.op(impl.OpToReal, "Real", g.most)
	g.quotient = g.scaled(g.call("r", "Real"), "Real", more+2, true)
	g.under = g.op(impl.OpMul, "Real", g.num("Real", "1/10"), g.quotient)
	return g, impl.Model{Interps: []impl.Interp{fixed("p", "true"), fixed("x", "5"), fixed("high", nines(impl.ValueMax)), fixed("low", nines(more)), fixed("r", "1/"+tenTo(impl.ValueMax-3)), fixed("u", "@0"),
		fixed("m", "{7;5=9}"), {Name: "f", Rest: "3", Rows: []impl.Row{row("4", "5")}}, {Name: "g", Rest: "true", Rows: []impl.Row{row("false", "@0", "5")}}, fixed("k", "@1")}}
}

// checkLong holds terms of a longBank against what they are said to be.
func (g *longBank) checkLong(m impl.Model, want map[int]string) {
	g.t.Helper()
	values := checkEval(g.t, g.bank, m)
	for id, is := range want {
		if values[id] != is {
			g.t.Errorf("term %d, %+v: %s, want %s", id, g.bank.Terms[id], short(values[id]), short(is))
		}
	}
}

// Numbers of IntDigits digits, and what makes them longer.
func TestStage7LongNumbers(t *testing.T) {
	g, m := makeLong(t)
	most, least, one := nines(impl.IntDigits), minus(nines(impl.IntDigits)), tenTo(impl.IntDigits-1)
	up, down, nought, two, minusTwo := g.num("Int", "1"), g.num("Int", "-1"), g.num("Int", "0"), g.num("Int", "2"), g.num("Int", "-2")
	I, B := "Int", "Bool"
	g.checkLong(m, map[int]string{
		g.most: most, g.least: least, g.one: one, g.none: "",
		g.op(impl.OpAdd, I, g.most, nought): most, g.op(impl.OpAdd, I, g.most, up): "", g.op(impl.OpAdd, I, up, g.most): "", g.op(impl.OpAdd, I, g.most, down): nines(impl.IntDigits-1) + "8",
		g.op(impl.OpAdd, I, g.least, down): "", g.op(impl.OpAdd, I, g.least, up): minus(nines(impl.IntDigits-1) + "8"), g.op(impl.OpAdd, I, g.most, g.most): "", g.op(impl.OpAdd, I, g.most, g.least): "0",
		g.op(impl.OpSub, I, g.most, down): "", g.op(impl.OpSub, I, g.most, nought): most, g.op(impl.OpSub, I, g.least, up): "", g.op(impl.OpSub, I, g.least, nought): least, g.op(impl.OpSub, I, g.most, g.least): "", g.op(impl.OpSub, I, g.most, g.most): "0",
		g.op(impl.OpMul, I, two, g.most): "", g.op(impl.OpMul, I, minusTwo, g.most): "", g.op(impl.OpMul, I, down, g.most): least, g.op(impl.OpMul, I, down, g.least): most, g.op(impl.OpMul, I, nought, g.most): "0", g.op(impl.OpMul, I, up, g.least): least, g.op(impl.OpMul, I, two, g.one): "2" + strings.Repeat("0", impl.IntDigits-1),
		g.op(impl.OpNeg, I, g.least): most, g.op(impl.OpDiv, I, g.most, up): most, g.op(impl.OpDiv, I, g.most, down): least, g.op(impl.OpDiv, I, g.least, down): most, g.op(impl.OpDiv, I, g.one, two): "5" + strings.Repeat("0", impl.IntDigits-2),
		g.op(impl.OpMod, I, g.most, two): "1", g.op(impl.OpMod, I, g.least, minusTwo): "1", g.op(impl.OpMod, I, g.one, two): "0", g.op(impl.OpDiv, I, g.least, two): minus("5" + strings.Repeat("0", impl.IntDigits-1)),
		g.op(impl.OpLt, B, g.least, g.most): "true", g.op(impl.OpLt, B, g.one, g.most): "true", g.op(impl.OpGe, B, g.one, g.most): "false", g.op(impl.OpEq, B, g.most, g.most): "true", g.op(impl.OpEq, B, g.most, g.least): "false", g.op(impl.OpDistinct, B, g.most, g.one, g.least): "true",
	})
}

// The value of a sum is that of all its kids: what some of them come to on the way is no term's value.
func TestStage7SumsOfMany(t *testing.T) {
	g, m := makeLong(t)
	most := nines(impl.IntDigits)
	up, down := g.num("Int", "1"), g.num("Int", "-1")
	rise, fall := g.op(impl.OpToReal, "Real", up), g.op(impl.OpToReal, "Real", down)
	g.checkLong(m, map[int]string{
		g.op(impl.OpAdd, "Int", g.most, up, down): most, g.op(impl.OpAdd, "Int", up, g.most, down): most, g.op(impl.OpAdd, "Int", g.most, g.most, g.least): most, g.op(impl.OpAdd, "Int", g.most, g.most, g.most, g.least, g.least): most,
		g.op(impl.OpAdd, "Int", g.most, up, up, down): "", g.op(impl.OpAdd, "Int", g.most, down, up, up): "", g.op(impl.OpAdd, "Int", slices.Repeat([]int{g.one}, 9)...): "9" + strings.Repeat("0", impl.IntDigits-1), g.op(impl.OpAdd, "Int", slices.Repeat([]int{g.one}, 10)...): "",
		g.op(impl.OpAdd, "Real", g.realMost, rise, fall): most, g.op(impl.OpAdd, "Real", rise, g.realMost): "", g.op(impl.OpAdd, "Real", fall, rise, g.realMost): most,
	})
}

// Rational numbers, either part of which may be too long.
func TestStage7LongQuotients(t *testing.T) {
	g, m := makeLong(t)
	R := "Real"
	half, third, tenth, eleventh := g.num(R, "1/2"), g.num(R, "1/3"), g.num(R, "1/10"), g.num(R, "1/11")
	under, minusOne := g.quotient, g.num(R, "-1")
	const digits = impl.IntDigits
	quotient := "1/" + tenTo(digits-1)
	zero := g.num(R, "0")
	short := g.op(impl.OpMul, R, tenth, g.realMost)
	g.checkLong(m, map[int]string{
		g.realMost: nines(digits), g.quotient: quotient, g.under: "", g.op(impl.OpMul, R, half, g.realMost): nines(digits) + "/2", g.op(impl.OpMul, R, third, g.realMost): strings.Repeat("3", digits), short: nines(digits) + "/10",
		g.op(impl.OpAdd, R, g.realMost, half): "", g.op(impl.OpAdd, R, short, short): nines(digits) + "/5", g.op(impl.OpSub, R, under, third): minus(nines(digits-2)) + "7/3" + strings.Repeat("0", digits-1), g.op(impl.OpSub, R, under, eleventh): "", g.op(impl.OpAdd, R, under, zero): quotient, g.op(impl.OpNeg, R, under): minus(quotient), g.op(impl.OpMul, R, minusOne, under): minus(quotient),
		g.op(impl.OpMul, R, half, under): "1/2" + strings.Repeat("0", digits-1), g.op(impl.OpMul, R, tenth, under): "", g.op(impl.OpSub, R, under, under): "0", g.op(impl.OpLt, "Bool", under, half): "true", g.op(impl.OpGt, "Bool", under, g.realMost): "false", g.op(impl.OpEq, "Bool", under, under): "true",
		g.op(impl.OpAdd, R, under, half): "5" + strings.Repeat("0", digits-3) + "1/" + tenTo(digits-1), g.op(impl.OpAdd, R, under, minusOne): minus(nines(digits-1)) + "/" + tenTo(digits-1), g.op(impl.OpSub, R, half, g.realMost): "",
	})
}

// What has a kid without a value has none, whatever its other kids are.
func TestStage7NoneBelow(t *testing.T) {
	g, m := makeLong(t)
	B, I := "Bool", "Int"
	noBool := g.op(impl.OpEq, B, g.none, g.none)
	noArray := g.op(impl.OpStore, longArray, g.array, g.x, g.none)
	noReal := g.op(impl.OpToReal, "Real", g.none)
	nought, one := g.num(I, "0"), g.num(I, "1")
	none := []int{g.none, noBool, noArray, noReal, g.op(impl.OpIte, I, g.p, g.none, g.x), g.op(impl.OpIte, I, g.p, g.x, g.none), g.op(impl.OpIte, I, 0, g.x, g.none), g.op(impl.OpIte, I, 1, g.none, g.x), g.op(impl.OpIte, I, noBool, g.x, g.x), g.op(impl.OpIte, B, noBool, 0, 0), g.op(impl.OpIte, longArray, 0, g.array, noArray),
		g.op(impl.OpNot, B, noBool), g.op(impl.OpAnd, B, 1, noBool), g.op(impl.OpAnd, B, noBool, 1), g.op(impl.OpAnd, B, 0, 1, noBool), g.op(impl.OpOr, B, 0, noBool), g.op(impl.OpOr, B, noBool, 0, 0), g.op(impl.OpXor, B, 0, noBool), g.op(impl.OpXor, B, noBool, noBool), g.op(impl.OpImplies, B, 1, noBool), g.op(impl.OpImplies, B, noBool, 0), g.op(impl.OpImplies, B, noBool, noBool),
		g.op(impl.OpEq, B, g.none, g.x), g.op(impl.OpEq, B, noArray, noArray), g.op(impl.OpEq, B, noBool, noBool), g.op(impl.OpDistinct, B, g.x, g.x, g.none), g.op(impl.OpDistinct, B, g.none, g.none), g.op(impl.OpDistinct, B, g.x, g.none),
		g.op(impl.OpAdd, I, g.x, g.none), g.op(impl.OpAdd, I, g.none, nought, nought), g.op(impl.OpSub, I, g.none, g.none), g.op(impl.OpNeg, I, g.none), g.op(impl.OpMul, I, nought, g.none), g.op(impl.OpLe, B, g.none, g.x), g.op(impl.OpLe, B, g.none, g.none), g.op(impl.OpLt, B, g.x, g.none), g.op(impl.OpGe, B, g.none, g.x), g.op(impl.OpGt, B, g.x, g.none), g.op(impl.OpDiv, I, g.none, one), g.op(impl.OpMod, I, g.none, one),
		g.call("f", I, g.none), g.call("g", B, g.u, g.none), g.call("k", "U", noReal), g.op(impl.OpSelect, I, g.array, g.none), g.op(impl.OpSelect, I, noArray, g.x), g.op(impl.OpStore, longArray, noArray, g.x, g.x), g.op(impl.OpStore, longArray, g.array, g.none, g.x), g.op(impl.OpStore, longArray, noArray, g.x, nought),
		g.op(impl.OpSelect, I, g.op(impl.OpIte, longArray, 1, noArray, g.array), g.x)}
	want := map[int]string{}
	for _, id := range none {
		want[id] = ""
	}
	g.checkLong(m, want)
	for _, id := range none {
		if impl.Holds(g.bank, m, []int{id}) {
			t.Errorf("Holds of term %d, which has no value", id)
		}
	}
	m.Interps[0].Rest = "false"
	g.checkLong(m, want)
	if !impl.Holds(g.bank, m, []int{0, g.op(impl.OpEq, B, g.most, g.most)}) {
		t.Error("a term without a value says nothing of the others")
	}
}

// A number of more than ValueMax bytes may be a term's value, but neither an index nor an element. No row of a function has it.
func TestStage7LongArguments(t *testing.T) {
	g, m := makeLong(t)
	I, A := "Int", longArray
	high := g.call("high", I)
	next := g.op(impl.OpAdd, I, high, g.num(I, "1"))
	low, seven, pNot := g.op(impl.OpNeg, I, high), g.num(I, "7"), g.op(impl.OpNot, "Bool", g.p)
	g.checkLong(m, map[int]string{
		high: nines(impl.ValueMax), next: tenTo(impl.ValueMax), low: minus(nines(impl.ValueMax)),
		g.op(impl.OpSelect, I, g.array, g.x): "9", g.op(impl.OpSelect, I, g.array, seven): "7", g.op(impl.OpSelect, I, g.array, high): "7", g.op(impl.OpSelect, I, g.array, next): "", g.op(impl.OpSelect, I, g.array, low): "", g.op(impl.OpSelect, I, g.array, g.most): "",
		g.op(impl.OpStore, A, g.array, high, seven): "{7;5=9}", g.op(impl.OpStore, A, g.array, next, seven): "", g.op(impl.OpStore, A, g.array, low, seven): "", g.op(impl.OpStore, A, g.array, g.x, high): "", g.op(impl.OpStore, A, g.array, g.x, next): "", g.op(impl.OpStore, A, g.array, high, g.x): "",
		g.call("f", I, g.x): "4", g.call("f", I, high): "3", g.call("f", I, next): "3", g.call("f", I, g.most): "3", g.call("f", I, g.least): "3", g.call("g", "Bool", g.u, g.x): "false", g.call("g", "Bool", g.u, g.most): "true", g.call("k", "U", g.realMost): "@1", g.call("k", "U", g.quotient): "@1",
		g.op(impl.OpIte, I, g.p, g.most, g.x): nines(impl.IntDigits), g.op(impl.OpIte, I, pNot, g.most, g.x): "5", g.op(impl.OpEq, "Bool", next, next): "true", g.op(impl.OpDistinct, "Bool", next, high, next): "false",
	})
	m.Interps[7].Rows = []impl.Row{row("1", minus(nines(impl.ValueMax-1))), row("4", "5"), row("2", nines(impl.ValueMax))}
	g.checkLong(m, map[int]string{g.call("f", I, high): "2", g.call("f", I, next): "3", g.call("f", I, low): "3", g.call("f", I, g.x): "4"})
}

// A store that makes an array too full or too long, and one that leaves it as great as it may be.
func TestStage7GreatArrays(t *testing.T) {
	bits := bitsOf(7)
	over := arrayOf(bits, "Int")
	g := &growing{t: t, bank: impl.NewBank()}
	g.bank.Funs = []impl.Fun{{Name: "m", Sort: longArray}, {Name: "i", Sort: "Int"}, {Name: "v", Sort: "Int"}, {Name: "j", Sort: "Int"}, {Name: "w", Sort: over}, {Name: "b", Sort: bits}}
	m, i, v, j, w, b := g.call("m", longArray), g.call("i", "Int"), g.call("v", "Int"), g.call("j", "Int"), g.call("w", over), g.call("b", bits)
	put := g.op(impl.OpStore, longArray, m, i, v)
	taken := g.op(impl.OpStore, longArray, m, j, g.num("Int", "0"))
	moved := g.op(impl.OpStore, longArray, taken, i, v)
	back := g.op(impl.OpStore, longArray, put, j, g.num("Int", "0"))
	got, same := g.op(impl.OpSelect, "Int", put, i), g.op(impl.OpEq, "Bool", moved, back)
	word := g.op(impl.OpStore, over, w, b, v)
	full := entriesOf(longArray, 1, impl.EntryMax)
	check := func(array, index, value, out, words, at string, want map[int]string) {
		t.Helper()
		values := checkEval(t, g.bank, impl.Model{Interps: []impl.Interp{fixed("m", array), fixed("i", index), fixed("v", value), fixed("j", out), fixed("w", words), fixed("b", at)}})
		if len(values) == 0 {
			t.Fatalf("%s at %s: the model is good", short(array), index)
		}
		for id, is := range want {
			if values[id] != is {
				t.Errorf("%s at %s, then at %s: term %d is %s, want %s", short(array), index, out, id, short(values[id]), short(is))
			}
		}
	}
	zero, last := wordText(7, 0), wordText(7, 127)
	check(full, "99", "1", "1", entriesOf(over, 1, 60), last, map[int]string{put: "", back: "", got: "", same: "", word: ""})
	check(full, "99", "0", "1", entriesOf(over, 1, 59), last, map[int]string{put: full, got: "0", same: "true"})
	check(full, "1", "4", "2", entriesOf(over, 1, 59), wordText(7, 1), map[int]string{put: strings.Replace(full, ";1=1", ";1=4", 1), got: "4", same: "true"})
	check("{0;1=1}", "99", "1", "1", "{4}", zero, map[int]string{put: "{0;1=1;99=1}", moved: "{0;99=1}", back: "{0;99=1}", word: ""})
	check("{0}", "1", "4", "1", "{4}", zero, map[int]string{put: "{0;1=4}", moved: "{0;1=4}", back: "{0}", same: "false", word: "{4}"})
	check("{0}", "1", nines(impl.ValueMax-6), "1", "{4}", zero, map[int]string{put: "{0;1=" + nines(impl.ValueMax-6) + "}", got: nines(impl.ValueMax - 6), back: "{0}"})
	check("{0}", "1", nines(impl.ValueMax-5), "1", "{4}", zero, map[int]string{put: "", got: "", back: "", same: ""})
	check("{0}", "10", nines(impl.ValueMax-6), "1", "{4}", zero, map[int]string{put: ""})
	check("{0;1="+nines(990)+"}", "2", nines(1001), "1", "{4}", zero, map[int]string{put: "{0;1=" + nines(990) + ";2=" + nines(1001) + "}", moved: "{0;2=" + nines(1001) + "}", same: "true"})
	check("{0;1="+nines(990)+"}", "2", nines(1002), "1", "{4}", zero, map[int]string{put: "", moved: "{0;2=" + nines(1002) + "}", back: "", same: ""})
}

// Words of every width: the lowest and the highest bit, and digits ahead up to the greatest width.
func TestStage7Widths(t *testing.T) {
	r := rand.New(rand.NewSource(71))
	for w := 1; w <= impl.MaxWidth; w++ {
		var terms []impl.Term
		for a := range w {
			for _, b := range []int{0, a, a / 2} {
				terms = append(terms, impl.Term{Op: impl.OpExtract, Sort: bitsOf(a - b + 1), A: a, B: b, Kids: []int{0}})
			}
		}
		for more := 1; w+more <= impl.MaxWidth; more++ {
			terms = append(terms, impl.Term{Op: impl.OpZext, Sort: bitsOf(w + more), A: more, Kids: []int{0}}, impl.Term{Op: impl.OpSext, Sort: bitsOf(w + more), A: more, Kids: []int{0}})
		}
		if w < impl.MaxWidth {
			terms = append(terms, term(impl.OpConcat, bitsOf(w+1), 0, 1), term(impl.OpConcat, bitsOf(w+1), 1, 0))
		}
		b := bankWith(t, []string{bitsOf(w), bitsOf(1)}, withoutTwins(terms)...)
		for _, n := range []uint64{0, 1, 1 << (w - 1), 1<<w - 1, r.Uint64() & (1<<w - 1), r.Uint64() & (1<<w - 1)} {
			for _, low := range []string{"#b0", "#b1"} {
				checkEval(t, b, modelWith(wordText(w, n), low))
			}
		}
	}
	for _, op := range []int{impl.OpZext, impl.OpSext} { // chapter 4 has no term by 0, nor one that is wider than MaxWidth
		for _, x := range []impl.Term{{Op: op, Sort: bitsOf(8), Kids: []int{0}}, {Op: op, Sort: bitsOf(65), A: 57, Kids: []int{0}}, {Op: op, Sort: bitsOf(7), A: -1, Kids: []int{0}}} {
			b := bankWith(t, []string{bitsOf(8)})
			b.Terms = append(b.Terms, x)
			if v := checkEval(t, b, modelWith(wordText(8, 3))); len(v) > 0 {
				t.Errorf("%+v: %q", x, v)
			}
		}
	}
}

// withoutTwins leaves out terms that are there already: no bank has one twice.
func withoutTwins(terms []impl.Term) []impl.Term {
	var out []impl.Term
	seen := map[string]bool{}
	for _, x := range terms {
		if key := fmt.Sprintf("%+v", x); !seen[key] {
			seen[key] = true
			out = append(out, x)
		}
	}
	return out
}

// A bank of MaxTerms terms one above the other.
func TestStage7DeepTerms(t *testing.T) {
	b := bankWith(t, []string{"Int", "Bool"})
	for id := 2; id < impl.MaxTerms; id++ {
		if id%2 == 0 {
			b.Terms = append(b.Terms, term(impl.OpAdd, "Int", max(0, id-2), 0))
		} else {
			b.Terms = append(b.Terms, term(impl.OpXor, "Bool", id-2, 1))
		}
	}
	for _, truth := range []string{"true", "false"} {
		values := checkEval(t, b, modelWith("3", truth))
		if want := strconv.Itoa(3 * (impl.MaxTerms / 2)); len(values) != impl.MaxTerms || values[impl.MaxTerms-2] != want {
			t.Errorf("%d values", len(values))
		}
	}
}
