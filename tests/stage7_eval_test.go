package tests

import (
	"slices"
	"strconv"
	"strings"
	"testing"

	"loop.example/g00007/impl"
)

const declaredMix = `(declare-sort U 0)(declare-const p Bool)(declare-const q Bool)(declare-const x Int)(declare-const y Int)(declare-const r Real)(declare-const s Real)
(declare-const u U)(declare-const v U)(declare-const w (_ BitVec 4))(declare-const z (_ BitVec 4))(declare-const a (Array Int Int))(declare-const c (Array (_ BitVec 1) U))
(declare-fun f (Int) Int)(declare-fun g (Int U) Bool)(declare-fun h (Real (_ BitVec 4) Int) Real)(declare-fun k ((_ BitVec 4)) U)`

func fixed(name, value string) impl.Interp {
	return impl.Interp{Name: name, Rest: value}
}

func row(val string, args ...string) impl.Row {
	return impl.Row{Args: args, Val: val}
}

// modelMix is a model for declaredMix.
func modelMix() impl.Model {
	return impl.Model{Interps: []impl.Interp{fixed("p", "true"), fixed("q", "false"), fixed("x", "-7"), fixed("y", "3"), fixed("r", "1/2"), fixed("s", "-5/3"),
		fixed("u", "@0"), fixed("v", "@3"), fixed("w", "#b1001"), fixed("z", "#b0011"), fixed("a", "{0;-7=2;3=5}"), fixed("c", "{@3;#b1=@0}"),
		{Name: "f", Rest: "9", Rows: []impl.Row{row("1", "-10"), row("2", "-7"), row("4", "-1"), row("8", "0"), row("3", "11")}},
		{Name: "g", Rest: "false", Rows: []impl.Row{row("true", "-7", "@3"), row("true", "3", "@0"), row("true", "3", "@3"), row("true", "4", "@1")}},
		{Name: "h", Rest: "0", Rows: []impl.Row{row("1/3", "-5/3", "#b1001", "3"), row("2/3", "1/2", "#b0011", "-7"), row("-1", "1/2", "#b0011", "3"), row("7", "1/2", "#b1001", "-7")}},
		{Name: "k", Rest: "@1", Rows: []impl.Row{row("@0", "#b0011"), row("@3", "#b1001")}}}}
}

// checkMeant reads terms from their texts and holds what each is against what it is said to be.
func checkMeant(t *testing.T, declared string, m impl.Model, pairs [][2]string) {
	t.Helper()
	for _, pair := range pairs {
		r := parsed(t, declared+"(get-value ("+pair[0]+"))")
		if r.Err != impl.LangOk {
			t.Fatalf("%s: Err %d at %d", pair[0], r.Err, r.At)
		}
		values := checkEval(t, r.Script.Bank, m)
		if len(values) == 0 {
			t.Fatalf("%s: the model is good", pair[0])
		}
		if got := values[r.Script.Commands[0].Ids[0]]; got != pair[1] {
			t.Errorf("%s is %s, want %s", pair[0], short(got), short(pair[1]))
		}
	}
}

func TestStage7Logic(t *testing.T) {
	checkMeant(t, declaredMix, modelMix(), [][2]string{
		{"true", "true"}, {"false", "false"}, {"p", "true"}, {"q", "false"}, {"(not p)", "false"}, {"(not q)", "true"}, {"(and p p)", "true"}, {"(and p q)", "false"}, {"(and q p)", "false"},
		{"(and p p q p)", "false"}, {"(and p true p)", "true"}, {"(or q q)", "false"}, {"(or q p)", "true"}, {"(or p q)", "true"}, {"(or q q q p)", "true"}, {"(or p p)", "true"}, {"(xor p q)", "true"}, {"(xor q p)", "true"}, {"(xor p p)", "false"}, {"(xor q q)", "false"},
		{"(=> p p)", "true"}, {"(=> p q)", "false"}, {"(=> q p)", "true"}, {"(=> q q)", "true"}, {"(ite p x y)", "-7"}, {"(ite q x y)", "3"}, {"(ite p r s)", "1/2"}, {"(ite q r s)", "-5/3"},
		{"(ite p q p)", "false"}, {"(ite q q p)", "true"}, {"(ite p u v)", "@0"}, {"(ite q u v)", "@3"}, {"(ite p w z)", "#b1001"}, {"(ite q w z)", "#b0011"}, {"(ite p a (store a 3 0))", "{0;-7=2;3=5}"}, {"(ite q a (store a 3 0))", "{0;-7=2}"},
		{"(= p p)", "true"}, {"(= p q)", "false"}, {"(= q q)", "true"}, {"(= x y)", "false"}, {"(= x (- 7))", "true"}, {"(= r s)", "false"}, {"(= r 0.5)", "true"}, {"(= u v)", "false"}, {"(= u u)", "true"}, {"(= w z)", "false"}, {"(= w #b1001)", "true"},
		{"(= a a)", "true"}, {"(= a (store a 3 5))", "true"}, {"(= a (store a 3 6))", "false"}, {"(= a (store (store a 3 6) 3 5))", "true"},
		{"(distinct p q)", "true"}, {"(distinct p p)", "false"}, {"(distinct p q p)", "false"}, {"(distinct x y)", "true"}, {"(distinct x y 0)", "true"}, {"(distinct x y (- 7))", "false"}, {"(distinct y x 3 x)", "false"}, {"(distinct 1 x x)", "false"}, {"(distinct r s 0.0)", "true"}, {"(distinct r s 0.5)", "false"},
		{"(distinct u v)", "true"}, {"(distinct u v u)", "false"}, {"(distinct w z #b0000)", "true"}, {"(distinct w #b1001)", "false"}, {"(distinct a (store a 3 6))", "true"}, {"(distinct a (store a 0 1) (store a 3 5))", "false"},
	})
}

func TestStage7Numbers(t *testing.T) {
	checkMeant(t, declaredMix, modelMix(), [][2]string{
		{"5", "5"}, {"(- 5)", "-5"}, {"0.75", "3/4"}, {"(- 0.75)", "-3/4"}, {"2.0", "2"}, {"(+ x y)", "-4"}, {"(+ x y 4)", "0"}, {"(+ x x x 1)", "-20"}, {"(+ r s)", "-7/6"}, {"(+ r r)", "1"}, {"(+ r s r s)", "-7/3"},
		{"(- x y)", "-10"}, {"(- y x)", "10"}, {"(- x x)", "0"}, {"(- r s)", "13/6"}, {"(- s r)", "-13/6"}, {"(- s s)", "0"}, {"(- x)", "7"}, {"(- y)", "-3"}, {"(- r)", "-1/2"}, {"(- (+ x 7))", "0"},
		{"(* 6 x)", "-42"}, {"(* (- 6) x)", "42"}, {"(* 0 x)", "0"}, {"(* 4.0 r)", "2"}, {"(* 0.6 s)", "-1"}, {"(/ s 5.0)", "-1/3"}, {"(<= x y)", "true"}, {"(<= y x)", "false"}, {"(<= x x)", "true"}, {"(< x y)", "true"}, {"(< y x)", "false"}, {"(< x x)", "false"},
		{"(>= x y)", "false"}, {"(>= y x)", "true"}, {"(>= x x)", "true"}, {"(> x y)", "false"}, {"(> y x)", "true"}, {"(> x x)", "false"}, {"(<= s r)", "true"}, {"(< r s)", "false"}, {"(>= s (- 1.7))", "true"}, {"(> r 0.5)", "false"}, {"(>= r 0.5)", "true"}, {"(< 9 10)", "true"}, {"(< 10 9)", "false"},
		{"(div x 2)", "-4"}, {"(mod x 2)", "1"}, {"(div x (- 2))", "4"}, {"(mod x (- 2))", "1"}, {"(div 7 2)", "3"}, {"(mod 7 2)", "1"}, {"(div 7 (- 2))", "-3"}, {"(mod 7 (- 2))", "1"}, {"(div x 7)", "-1"}, {"(mod x 7)", "0"}, {"(div x (- 7))", "1"}, {"(mod x (- 7))", "0"},
		{"(div (- 1) 10)", "-1"}, {"(mod (- 1) 10)", "9"}, {"(div (- 1) (- 10))", "1"}, {"(mod (- 1) (- 10))", "9"}, {"(div 0 5)", "0"}, {"(mod 0 5)", "0"}, {"(to_real x)", "-7"}, {"(+ (to_real x) r)", "-13/2"}, {"(= (to_real 2) 2.0)", "true"},
	})
}

func TestStage7Words(t *testing.T) {
	checkMeant(t, declaredMix, modelMix(), [][2]string{
		{"#b0101", "#b0101"}, {"#xA", "#b1010"}, {"(_ bv3 64)", wordText(64, 3)}, {"(bvnot w)", "#b0110"}, {"(bvneg w)", "#b0111"}, {"(bvneg #b0000)", "#b0000"}, {"(bvand w z)", "#b0001"}, {"(bvor w z)", "#b1011"}, {"(bvxor w z)", "#b1010"},
		{"(bvadd w z)", "#b1100"}, {"(bvadd w w)", "#b0010"}, {"(bvsub w z)", "#b0110"}, {"(bvsub z w)", "#b1010"}, {"(bvmul w z)", "#b1011"}, {"(bvudiv w z)", "#b0011"}, {"(bvudiv z w)", "#b0000"}, {"(bvudiv w #b0000)", "#b1111"}, {"(bvurem w z)", "#b0000"}, {"(bvurem z w)", "#b0011"}, {"(bvurem w #b0000)", "#b1001"},
		{"(bvshl w #b0001)", "#b0010"}, {"(bvshl w #b0100)", "#b0000"}, {"(bvshl z z)", "#b1000"}, {"(bvlshr w #b0001)", "#b0100"}, {"(bvlshr w w)", "#b0000"}, {"(bvashr w #b0001)", "#b1100"}, {"(bvashr w w)", "#b1111"}, {"(bvashr z #b0001)", "#b0001"}, {"(bvashr z w)", "#b0000"},
		{"(bvult w z)", "false"}, {"(bvult z w)", "true"}, {"(bvult w w)", "false"}, {"(bvule w z)", "false"}, {"(bvule z w)", "true"}, {"(bvule w w)", "true"}, {"(bvslt w z)", "true"}, {"(bvslt z w)", "false"}, {"(bvslt w w)", "false"}, {"(bvsle w z)", "true"}, {"(bvsle z w)", "false"}, {"(bvsle w w)", "true"},
		{"(concat w z)", "#b10010011"}, {"(concat z w)", "#b00111001"}, {"(concat w #b0)", "#b10010"}, {"((_ extract 0 0) w)", "#b1"}, {"((_ extract 1 1) w)", "#b0"}, {"((_ extract 3 3) w)", "#b1"}, {"((_ extract 3 0) w)", "#b1001"}, {"((_ extract 2 1) w)", "#b00"}, {"((_ extract 3 1) w)", "#b100"}, {"((_ extract 1 0) z)", "#b11"},
		{"((_ zero_extend 1) w)", "#b01001"}, {"((_ zero_extend 3) z)", "#b0000011"}, {"((_ sign_extend 1) w)", "#b11001"}, {"((_ sign_extend 3) w)", "#b1111001"}, {"((_ sign_extend 3) z)", "#b0000011"}, {"((_ zero_extend 60) w)", wordText(64, 9)}, {"((_ sign_extend 60) w)", wordText(64, 1<<64-7)}, {"((_ sign_extend 60) z)", wordText(64, 3)},
	})
}

func TestStage7FunctionsAndArrays(t *testing.T) {
	checkMeant(t, declaredMix, modelMix(), [][2]string{
		{"x", "-7"}, {"y", "3"}, {"r", "1/2"}, {"s", "-5/3"}, {"u", "@0"}, {"v", "@3"}, {"w", "#b1001"}, {"z", "#b0011"}, {"a", "{0;-7=2;3=5}"}, {"c", "{@3;#b1=@0}"},
		{"(f x)", "2"}, {"(f (- 10))", "1"}, {"(f (- 1))", "4"}, {"(f 0)", "8"}, {"(f 11)", "3"}, {"(f 10)", "9"}, {"(f 12)", "9"}, {"(f (- 11))", "9"}, {"(f (- 8))", "9"}, {"(f (f x))", "9"}, {"(f (- (f 0) (+ (f 10) 0)))", "4"}, {"(f 1111111111111111)", "9"},
		{"(g x u)", "false"}, {"(g x v)", "true"}, {"(g y u)", "true"}, {"(g y v)", "true"}, {"(g 4 u)", "false"}, {"(g 4 (k #b0000))", "true"}, {"(g (- 3) v)", "false"}, {"(g (f x) u)", "false"},
		{"(h r z x)", "2/3"}, {"(h r z y)", "-1"}, {"(h r w x)", "7"}, {"(h r w y)", "0"}, {"(h s w y)", "1/3"}, {"(h s w x)", "0"}, {"(h s z y)", "0"}, {"(h 0.5 #b0011 3)", "-1"}, {"(h (h r z x) w y)", "0"}, {"(k w)", "@3"}, {"(k z)", "@0"}, {"(k #b1111)", "@1"}, {"(k (bvnot #b0110))", "@3"},
		{"(select a x)", "2"}, {"(select a y)", "5"}, {"(select a 0)", "0"}, {"(select a (select a x))", "0"}, {"(select c #b0)", "@3"}, {"(select c #b1)", "@0"}, {"(store a 1 1)", "{0;-7=2;1=1;3=5}"}, {"(store a y 0)", "{0;-7=2}"}, {"(store a x y)", "{0;-7=3;3=5}"}, {"(store a 4 0)", "{0;-7=2;3=5}"},
		{"(store c #b0 u)", "{@0}"}, {"(store c #b1 v)", "{@3}"}, {"(store c #b0 (k #b0000))", "{@1;#b1=@0}"}, {"(select (store a 9 9) 9)", "9"}, {"(select (store a 9 9) y)", "5"}, {"(select (store c #b0 u) #b0)", "@0"}, {"(select (store (store a 9 9) 9 8) 9)", "8"},
	})
}

// bankWith has constants of the sorts, named by their numbers, and then the terms; the constants' terms are 0, 1 and so on.
func bankWith(t *testing.T, sorts []string, terms ...impl.Term) impl.Bank {
	t.Helper()
	b := impl.Bank{Sorts: valueOwn()}
	for i, sort := range sorts {
		name := "x" + strconv.Itoa(i)
		b.Funs = append(b.Funs, impl.Fun{Name: name, Sort: sort})
		b.Terms = append(b.Terms, constant(name, sort))
	}
	b.Terms = append(b.Terms, terms...)
	if !impl.GoodBank(b) {
		t.Fatalf("the bank is good: %+v", b)
	}
	return b
}

// modelWith gives the constants of bankWith their values.
func modelWith(values ...string) impl.Model {
	var m impl.Model
	for i, value := range values {
		m.Interps = append(m.Interps, fixed("x"+strconv.Itoa(i), value))
	}
	return m
}

// termsOn are all terms over the constants x0, x1, x2 of a sort; x3 is a Bool. Numerals are added for those that ask for one.
func termsOn(sort string) []impl.Term {
	terms := []impl.Term{term(impl.OpIte, sort, 3, 0, 1), term(impl.OpIte, sort, 3, 2, 2), term(impl.OpEq, "Bool", 0, 1), term(impl.OpEq, "Bool", 0, 0), term(impl.OpDistinct, "Bool", 0, 1), term(impl.OpDistinct, "Bool", 0, 1, 2), term(impl.OpDistinct, "Bool", 2, 1, 0, 0)}
	isNumber, isBits := sort == "Int" || sort == "Real", strings.HasPrefix(sort, "(_ BitVec")
	for op := 1; op <= 47; op++ {
		switch {
		case sort == "Bool" && op == impl.OpNot, isNumber && op == impl.OpNeg, isBits && (op == impl.OpBvNot || op == impl.OpBvNeg):
			terms = append(terms, term(op, sort, 0), term(op, sort, 1))
		case sort == "Bool" && (op == impl.OpAnd || op == impl.OpOr), isNumber && op == impl.OpAdd:
			terms = append(terms, term(op, sort, 0, 1), term(op, sort, 0, 1, 2), term(op, sort, 2, 2, 1, 0, 1))
		case sort == "Bool" && (op == impl.OpXor || op == impl.OpImplies), isNumber && op == impl.OpSub, isBits && op >= impl.OpBvAnd && op <= impl.OpBvSar:
			terms = append(terms, term(op, sort, 0, 1), term(op, sort, 0, 0))
		case isNumber && op >= impl.OpLe && op <= impl.OpGt, isBits && op >= impl.OpBvUlt && op <= impl.OpBvSle:
			terms = append(terms, term(op, "Bool", 0, 1), term(op, "Bool", 1, 1))
		}
	}
	if sort == "Int" {
		terms = append(terms, term(impl.OpToReal, "Real", 0))
	}
	if isBits {
		terms = append(terms, termsOnWidth(wordWidth(sort))...)
	}
	return terms
}

func termsOnWidth(w int) []impl.Term {
	var terms []impl.Term
	for _, cut := range [][2]int{{0, 0}, {w - 1, w - 1}, {w - 1, 0}, {w / 2, 0}, {w - 1, w / 2}, {w / 2, w / 4}} {
		x := impl.Term{Op: impl.OpExtract, Sort: bitsOf(cut[0] - cut[1] + 1), A: cut[0], B: cut[1], Kids: []int{0}}
		if !slices.ContainsFunc(terms, func(y impl.Term) bool { return y.A == x.A && y.B == x.B }) {
			terms = append(terms, x)
		}
	}
	for more := range slices.Values([]int{1, 2, 64 - w}) {
		if more > 0 && w+more <= 64 && !slices.ContainsFunc(terms, func(y impl.Term) bool { return y.Op == impl.OpZext && y.A == more }) {
			terms = append(terms, impl.Term{Op: impl.OpZext, Sort: bitsOf(w + more), A: more, Kids: []int{0}}, impl.Term{Op: impl.OpSext, Sort: bitsOf(w + more), A: more, Kids: []int{0}})
		}
	}
	if 2*w <= 64 {
		terms = append(terms, term(impl.OpConcat, bitsOf(2*w), 0, 1))
	}
	return terms
}

// Each operation with kids of each sort that it takes, for all pairs of some values.
func TestStage7AllPairs(t *testing.T) {
	for _, sort := range append(partSorts(), "Bool") {
		b := bankWith(t, []string{sort, sort, sort, "Bool"}, termsOn(sort)...)
		values := ascending(sort)
		for i, x := range values {
			for j, y := range values {
				checkEval(t, b, modelWith(x, y, values[(i+j)%len(values)], []string{"false", "true"}[(i+j)%2]))
			}
		}
	}
}

// Products, quotients and rests, whose one kid is a numeral.
func TestStage7Numerals(t *testing.T) {
	for _, sort := range []string{"Int", "Real"} {
		var terms []impl.Term
		for _, n := range ascending(sort) {
			if !isPlainNumber(sort, n) {
				continue
			}
			id := 1 + len(terms)
			terms = append(terms, numeral(sort, n), term(impl.OpMul, sort, id, 0), term(impl.OpMul, sort, id, id))
			if sort == "Int" && n != "0" {
				terms = append(terms, term(impl.OpDiv, sort, 0, id), term(impl.OpMod, sort, 0, id), term(impl.OpDiv, sort, id, id), term(impl.OpMod, sort, id, id))
			}
		}
		b := bankWith(t, []string{sort}, terms...)
		for _, x := range append(ascending(sort), nines(2000), minus(nines(1999))) {
			checkEval(t, b, modelWith(x))
		}
	}
}

func TestStage7ManyKids(t *testing.T) {
	sorts := slices.Repeat([]string{"Bool"}, impl.MaxKids)
	all := make([]int, impl.MaxKids)
	for i := range all {
		all[i] = i
	}
	b := bankWith(t, sorts, term(impl.OpAnd, "Bool", all...), term(impl.OpOr, "Bool", all...))
	for place := -1; place < impl.MaxKids; place++ {
		for _, odd := range []string{"true", "false"} {
			values := slices.Repeat([]string{map[string]string{"true": "false", "false": "true"}[odd]}, impl.MaxKids)
			if place >= 0 {
				values[place] = odd
			}
			checkEval(t, b, modelWith(values...))
		}
	}
	b = bankWith(t, slices.Repeat([]string{"Int"}, impl.MaxKids), term(impl.OpAdd, "Int", all...), term(impl.OpDistinct, "Bool", all...))
	for place := range impl.MaxKids {
		var values []string
		for i := range impl.MaxKids {
			values = append(values, strconv.Itoa(7*i%impl.MaxKids)) // 7 and 50 have no common divisor: no two the same
		}
		if v := checkEval(t, b, modelWith(values...)); v[50] != "1225" || v[51] != "true" {
			t.Fatalf("sum %s, distinct %s", v[50], v[51])
		}
		values[place] = values[(place+1+place%49)%50]
		if v := checkEval(t, b, modelWith(values...)); v[51] != "false" {
			t.Fatalf("%v are distinct", values)
		}
	}
}

// A good bank need have no terms at all, and no functions.
func TestStage7EmptyBanks(t *testing.T) {
	checkEval(t, impl.Bank{}, impl.Model{})
	checkEval(t, impl.Bank{}, impl.Model{Interps: []impl.Interp{}})
	checkEval(t, impl.NewBank(), impl.Model{})
	if !impl.GoodModel(impl.Bank{}, impl.Model{}) || !impl.Holds(impl.Bank{}, impl.Model{}, nil) || len(impl.Eval(impl.Bank{}, impl.Model{})) > 0 {
		t.Error("the empty model of the empty bank")
	}
	if got := impl.Eval(impl.NewBank(), impl.Model{}); !slices.Equal(got, []string{"true", "false"}) {
		t.Errorf("the new bank: %q", got)
	}
}
