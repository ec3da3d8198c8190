package tests

import (
	"slices"
	"strings"
	"testing"

	"loop.example/g00007/impl"
)

const declaredEqual = "(declare-sort U 0)(declare-const p Bool)(declare-const q Bool)(declare-const r Bool)" +
	"(declare-const x Int)(declare-const y Int)(declare-const z Int)(declare-const s Real)(declare-const t Real)" +
	"(declare-const u U)(declare-const v U)(declare-const w U)(declare-const m (_ BitVec 4))(declare-const n (_ BitVec 4))" +
	"(declare-const a (Array Int Int))(declare-const c (Array Int Int))(declare-const d (Array U (_ BitVec 4)))(declare-const e (Array U (_ BitVec 4)))" +
	"(declare-fun f (Int) Int)(declare-fun f2 (Int) Int)(declare-fun g (U Int) U)(declare-fun h (U) U)(declare-fun k (Int U (_ BitVec 4)) Real)(declare-fun l ((_ BitVec 4)) (_ BitVec 4))" +
	"(declare-fun j (U U U U U) Int)(declare-fun P (Int) Bool)(declare-fun Q (U U) Bool)"

// A row of facts, those that begin with "no " not On; terms that are in the bank beside them; all classes of more than one term,
// as "x ~ y; u ~ v"; and the core, by numbers.
type equalRow struct {
	facts []string
	more  []string
	equal string
	core  string
}

// factsOf reads facts and further terms into one bank.
func factsOf(t *testing.T, declared string, facts, more []string) (impl.Bank, []impl.Fact) {
	t.Helper()
	text := declared
	for _, one := range slices.Concat(facts, more) {
		text += "(get-value (" + strings.TrimPrefix(one, "no ") + "))"
	}
	read := parsed(t, text)
	if read.Err != impl.LangOk {
		t.Fatalf("%s: Err %d at %d", text, read.Err, read.At)
	}
	var list []impl.Fact
	for i, one := range facts {
		list = append(list, impl.Fact{Term: read.Script.Commands[i].Ids[0], On: !strings.HasPrefix(one, "no ")})
	}
	return read.Script.Bank, list
}

// groupsOf tells classes as a row does, sorted.
func groupsOf(b impl.Bank, of []int) []string {
	var groups []string
	for least := range of {
		var texts []string
		for id := range of {
			if of[id] == least {
				texts = append(texts, impl.TermText(b, id))
			}
		}
		if len(texts) > 1 {
			slices.Sort(texts)
			groups = append(groups, strings.Join(texts, " ~ "))
		}
	}
	slices.Sort(groups)
	return groups
}

func groupsIn(text string) []string {
	var groups []string
	for group := range strings.SplitSeq(text, "; ") {
		texts := strings.Split(group, " ~ ")
		slices.Sort(texts)
		if text != "" {
			groups = append(groups, strings.Join(texts, " ~ "))
		}
	}
	slices.Sort(groups)
	return groups
}

func checkEqualRows(t *testing.T, rows []equalRow) {
	t.Helper()
	for _, row := range rows {
		b, facts := factsOf(t, declaredEqual, row.facts, row.more)
		of, core := checkEqual(t, b, facts)
		if !slices.Equal(groupsOf(b, of), groupsIn(row.equal)) {
			t.Errorf("%q beside %q: equal are\n%q, want\n%q", row.facts, row.more, groupsOf(b, of), groupsIn(row.equal))
		}
		if !slices.Equal(core, numbersIn(t, row.core)) {
			t.Errorf("%q beside %q: the core is %v, want %s", row.facts, row.more, core, row.core)
		}
		mustBeCore(t, b, facts, core)
	}
}

// The example of the chapter, and equations over each kind of sort, On and not On.
func TestStage11Equations(t *testing.T) {
	checkEqualRows(t, []equalRow{
		{[]string{"(= (f x) y)", "(= x z)", "no (= (f z) y)"}, nil, "true ~ (= (f x) y) ~ (= x z); false ~ (= (f z) y); x ~ z; (f x) ~ (f z) ~ y", "0 1 2"},
		{[]string{"(= (f x) y)", "(= x z)"}, []string{"(= (f z) y)"}, "true ~ (= (f x) y) ~ (= x z); x ~ z; (f x) ~ (f z) ~ y", ""},
		{nil, []string{"(= x y)", "(f x)", "(P x)"}, "", ""},
		{[]string{"(= x y)"}, []string{"z"}, "true ~ (= x y); x ~ y", ""},
		{[]string{"no (= x y)"}, []string{"z"}, "false ~ (= x y)", ""},
		{[]string{"(= x y)", "(= y z)", "no (= x z)"}, nil, "true ~ (= x y) ~ (= y z); false ~ (= x z); x ~ y ~ z", "0 1 2"},
		{[]string{"no (= z x)", "(= x y)", "(= z y)"}, nil, "true ~ (= x y) ~ (= z y); false ~ (= z x); x ~ y ~ z", "0 1 2"},
		{[]string{"no (= x y)", "no (= y z)", "(= x z)"}, nil, "true ~ (= x z); false ~ (= x y) ~ (= y z); x ~ z", ""},
		{[]string{"(= s t)", "(= t 0.5)", "no (= s 0.5)"}, nil, "true ~ (= s t) ~ (= t (/ 1.0 2.0)); s ~ t ~ (/ 1.0 2.0); false ~ (= s (/ 1.0 2.0))", "0 1 2"},
		{[]string{"(= m n)", "no (= n #b0011)"}, []string{"(= m #b0011)"}, "true ~ (= m n); m ~ n; false ~ (= n #b0011)", ""},
		{[]string{"(= m n)", "(= n #b0011)", "no (= m #b0011)"}, nil, "true ~ (= m n) ~ (= n #b0011); m ~ n ~ #b0011; false ~ (= m #b0011)", "0 1 2"},
		{[]string{"(= u v)", "(= w v)", "no (= u w)"}, nil, "true ~ (= u v) ~ (= w v); u ~ v ~ w; false ~ (= u w)", "0 1 2"},
		{[]string{"(= a c)", "(= c (store a x y))", "no (= (store a x y) a)"}, nil, "true ~ (= a c) ~ (= c (store a x y)); a ~ c ~ (store a x y); false ~ (= (store a x y) a)", "0 1 2"},
		{[]string{"(= p q)", "(= q r)"}, []string{"(= p r)"}, "true ~ (= p q) ~ (= q r); p ~ q ~ r", ""},
		{[]string{"(= p q)", "no (= p q)"}, nil, "true ~ (= p q) ~ false; p ~ q", "0 1"},
		{[]string{"(= p q)", "p", "no q"}, nil, "true ~ (= p q) ~ p ~ q ~ false", "0 1 2"},
		{[]string{"no (= p q)", "p", "q"}, nil, "true ~ p ~ q; false ~ (= p q)", "0 1 2"},
		{[]string{"no (= p q)", "no p", "no q"}, nil, "false ~ p ~ q ~ (= p q)", "0 1 2"},
		{[]string{"(= p (= x y))", "p", "no (= x y)"}, nil, "true ~ p ~ (= x y) ~ false ~ (= p (= x y))", "0 1 2"},
		{[]string{"(= p (= x y))", "p"}, nil, "true ~ p ~ (= x y) ~ (= p (= x y))", ""},
	})
}

// Equal kids of functions of one and of many arguments, of arrays, and of operations of numbers and of bits.
func TestStage11EqualKids(t *testing.T) {
	checkEqualRows(t, []equalRow{
		{[]string{"(= x y)"}, []string{"(f x)", "(f y)", "(f z)", "(f2 x)", "(f2 y)"}, "true ~ (= x y); x ~ y; (f x) ~ (f y); (f2 x) ~ (f2 y)", ""},
		{[]string{"(= x y)"}, []string{"(f (f (f x)))", "(f (f (f y)))"}, "true ~ (= x y); x ~ y; (f x) ~ (f y); (f (f x)) ~ (f (f y)); (f (f (f x))) ~ (f (f (f y)))", ""},
		{[]string{"(= (f x) (f y))"}, []string{"(f (f x))", "(f (f y))"}, "true ~ (= (f x) (f y)); (f x) ~ (f y); (f (f x)) ~ (f (f y))", ""},
		{[]string{"(= x y)"}, []string{"(g u x)", "(g u y)", "(g v x)", "(g v y)"}, "true ~ (= x y); x ~ y; (g u x) ~ (g u y); (g v x) ~ (g v y)", ""},
		{[]string{"(= x y)", "(= u v)"}, []string{"(g u x)", "(g v y)"}, "true ~ (= x y) ~ (= u v); x ~ y; u ~ v; (g u x) ~ (g v y)", ""},
		{[]string{"(= u v)"}, []string{"(Q u v)", "(Q v u)", "(Q u u)", "(Q u w)", "(Q w u)", "(Q w v)"}, "true ~ (= u v); u ~ v; (Q u v) ~ (Q v u) ~ (Q u u); (Q w u) ~ (Q w v)", ""},
		{[]string{"(= x y)", "(= u v)", "(= m n)"}, []string{"(k x u m)", "(k y v n)", "(k z u m)"}, "true ~ (= x y) ~ (= u v) ~ (= m n); x ~ y; u ~ v; m ~ n; (k x u m) ~ (k y v n)", ""},
		{[]string{"(= x y)", "(= u v)"}, []string{"(k x u m)", "(k y v n)"}, "true ~ (= x y) ~ (= u v); x ~ y; u ~ v", ""},
		{[]string{"(= u v)", "(= (h u) w)", "(= (h w) u)"}, []string{"(h (h (h v)))", "(h v)"}, "true ~ (= u v) ~ (= (h u) w) ~ (= (h w) u); u ~ v ~ (h w) ~ (h (h v)); w ~ (h u) ~ (h v) ~ (h (h (h v)))", ""},
		{[]string{"(= u v)"}, []string{"(j u u u u u)", "(j v v v v v)", "(j u v u v w)", "(j v u v u w)", "(j w v u v u)"}, "true ~ (= u v); u ~ v; (j u u u u u) ~ (j v v v v v); (j u v u v w) ~ (j v u v u w)", ""},
		{[]string{"(= a c)", "(= x y)"}, []string{"(select a x)", "(select c y)", "(select a y)", "(select c z)"}, "true ~ (= a c) ~ (= x y); a ~ c; x ~ y; (select a x) ~ (select c y) ~ (select a y)", ""},
		{[]string{"(= u v)"}, []string{"(select d u)", "(select d v)", "(select e u)", "(select e v)", "(l (select d u))", "(l (select d v))"}, "true ~ (= u v); u ~ v; (select d u) ~ (select d v); (select e u) ~ (select e v); (l (select d u)) ~ (l (select d v))", ""},
		{[]string{"(= a c)", "(= x y)", "(= y z)"}, []string{"(store a x y)", "(store c z x)", "(store a x 1)"}, "true ~ (= a c) ~ (= x y) ~ (= y z); a ~ c; x ~ y ~ z; (store a x y) ~ (store c z x)", ""},
		{[]string{"(= x y)"}, []string{"(select (store a x 1) y)", "(select (store a y 1) x)", "(store a x 1)"}, "true ~ (= x y); x ~ y; (store a x 1) ~ (store a y 1); (select (store a x 1) y) ~ (select (store a y 1) x)", ""},
		{[]string{"(= x y)"}, []string{"(+ x z)", "(+ y z)", "(+ z x)", "(+ z y)", "(+ x z 1)", "(- x z)", "(- y z)", "(- x)", "(- y)", "(* 2 x)", "(* 2 y)", "(* 3 x)"}, "true ~ (= x y); x ~ y; (+ x z) ~ (+ y z); (+ z x) ~ (+ z y); (- x z) ~ (- y z); (- x) ~ (- y); (* 2 x) ~ (* 2 y)", ""},
		{[]string{"(= x y)"}, []string{"(+ x y)", "(+ x y x)", "(+ y x y)", "(+ y y x x)"}, "true ~ (= x y); x ~ y; (+ x y x) ~ (+ y x y)", ""},
		{[]string{"(= x y)"}, []string{"(div x 2)", "(div y 2)", "(mod x 2)", "(mod y 2)", "(div x 3)", "(to_real x)", "(to_real y)"}, "true ~ (= x y); x ~ y; (div x 2) ~ (div y 2); (mod x 2) ~ (mod y 2); (to_real x) ~ (to_real y)", ""},
		{[]string{"(= x y)"}, []string{"(<= x z)", "(<= y z)", "(< x z)", "(< y z)", "(>= x z)", "(>= y z)", "(> x z)", "(> y z)", "(<= z x)"}, "true ~ (= x y); x ~ y; (<= x z) ~ (<= y z); (< x z) ~ (< y z); (>= x z) ~ (>= y z); (> x z) ~ (> y z)", ""},
		{[]string{"(= (+ x 1) y)", "(= x z)"}, []string{"(f (+ z 1))", "(f y)"}, "true ~ (= (+ x 1) y) ~ (= x z); x ~ z; (+ x 1) ~ (+ z 1) ~ y; (f (+ z 1)) ~ (f y)", ""},
		{[]string{"(= m n)"}, []string{"(bvadd m #b0001)", "(bvadd n #b0001)", "(bvsub m #b0001)", "(bvnot m)", "(bvnot n)", "(concat m n)", "(concat n m)", "(bvult m n)", "(bvult n m)"}, "true ~ (= m n); m ~ n; (bvadd m #b0001) ~ (bvadd n #b0001); (bvnot m) ~ (bvnot n); (concat m n) ~ (concat n m); (bvult m n) ~ (bvult n m)", ""},
		{[]string{"(= m n)"}, []string{"((_ extract 2 1) m)", "((_ extract 2 1) n)", "((_ extract 1 0) n)", "((_ zero_extend 2) m)", "((_ zero_extend 2) n)", "((_ sign_extend 2) m)", "((_ sign_extend 2) n)"}, "true ~ (= m n); m ~ n; ((_ extract 2 1) m) ~ ((_ extract 2 1) n); ((_ zero_extend 2) m) ~ ((_ zero_extend 2) n); ((_ sign_extend 2) m) ~ ((_ sign_extend 2) n)", ""},
		{[]string{"(= x y)"}, []string{"(P x)", "(P y)", "(P z)"}, "true ~ (= x y); x ~ y; (P x) ~ (P y)", ""},
		{[]string{"(P x)", "(= x y)", "no (P y)"}, nil, "true ~ false ~ (P x) ~ (P y) ~ (= x y); x ~ y", "0 1 2"},
		{[]string{"(P x)", "no (P y)"}, []string{"(= x y)"}, "true ~ (P x); false ~ (P y)", ""},
		{[]string{"(<= x z)", "(= x y)", "no (<= y z)"}, nil, "true ~ false ~ (<= x z) ~ (<= y z) ~ (= x y); x ~ y", "0 1 2"},
	})
}

// Kids of OpEq, OpNot, OpAnd, OpOr, OpXor, OpImplies, OpIte and OpDistinct make no two terms equal.
func TestStage11UntoldKids(t *testing.T) {
	checkEqualRows(t, []equalRow{
		{[]string{"(= x y)"}, []string{"(= x z)", "(= y z)", "(distinct x z)", "(distinct y z)", "(ite p x z)", "(ite p y z)", "(f (ite p x z))", "(f (ite p y z))"}, "true ~ (= x y); x ~ y", ""},
		{[]string{"(= p q)"}, []string{"(not p)", "(not q)", "(and p r)", "(and q r)", "(or p r)", "(or q r)", "(xor p r)", "(xor q r)", "(=> p r)", "(=> q r)", "(ite p r r)", "(ite q r r)", "(= p r)", "(= q r)", "(distinct p r)", "(distinct q r)"}, "true ~ (= p q); p ~ q", ""},
		{[]string{"p", "q"}, []string{"(not p)", "(not q)", "(and p q)", "(or p q)", "(= p q)"}, "true ~ p ~ q", ""},
		{[]string{"(and p q)"}, nil, "true ~ (and p q)", ""},
		{[]string{"(and p q)", "no p"}, nil, "true ~ (and p q); false ~ p", ""},
		{[]string{"(not p)", "p"}, nil, "true ~ p ~ (not p)", ""},
		{[]string{"no (or p q)", "p"}, nil, "true ~ p; false ~ (or p q)", ""},
		{[]string{"no (distinct x y)"}, nil, "false ~ (distinct x y)", ""},
		{[]string{"(distinct x y)", "(= x y)"}, nil, "true ~ (distinct x y) ~ (= x y); x ~ y", ""},
		{[]string{"(= p true)", "(= q true)"}, []string{"(= p q)"}, "true ~ p ~ q ~ (= p true) ~ (= q true)", ""},
		{[]string{"(= p (= x y))", "p", "no (= (f x) (f y))"}, nil, "true ~ p ~ (= x y) ~ (= p (= x y)); false ~ (= (f x) (f y))", ""},
		{[]string{"(= p (= x y))", "(= p true)"}, []string{"(f x)", "(f y)"}, "true ~ p ~ (= x y) ~ (= p (= x y)) ~ (= p true)", ""},
	})
}

// Different constants that become equal, at once and by what follows.
func TestStage11Constants(t *testing.T) {
	checkEqualRows(t, []equalRow{
		{[]string{"(= 1 2)"}, nil, "true ~ (= 1 2); 1 ~ 2", "0"},
		{[]string{"no (= 1 2)"}, nil, "false ~ (= 1 2)", ""},
		{[]string{"(= 1 1)"}, nil, "true ~ (= 1 1)", ""},
		{[]string{"(= 1.0 0.5)"}, nil, "true ~ (= 1.0 (/ 1.0 2.0)); 1.0 ~ (/ 1.0 2.0)", "0"},
		{[]string{"(= #b01 #b10)"}, nil, "true ~ (= #b01 #b10); #b01 ~ #b10", "0"},
		{[]string{"(= true false)"}, nil, "true ~ false ~ (= true false)", "0"},
		{[]string{"(= false false)"}, nil, "true ~ (= false false)", ""},
		{[]string{"false"}, nil, "true ~ false", "0"},
		{[]string{"no true"}, nil, "true ~ false", "0"},
		{[]string{"true", "no false"}, nil, "", ""},
		{[]string{"(= x 1)", "(= x 2)"}, nil, "true ~ (= x 1) ~ (= x 2); x ~ 1 ~ 2", "0 1"},
		{[]string{"(= x 1)", "(= y 2)", "(= x y)"}, nil, "true ~ (= x 1) ~ (= y 2) ~ (= x y); x ~ y ~ 1 ~ 2", "0 1 2"},
		{[]string{"(= x 1)", "(= y 2)"}, []string{"(= x y)"}, "true ~ (= x 1) ~ (= y 2); x ~ 1; y ~ 2", ""},
		{[]string{"(= x 1)", "(= s 2.0)"}, []string{"(to_real x)", "1.0"}, "true ~ (= x 1) ~ (= s 2.0); x ~ 1; s ~ 2.0", ""},
		{[]string{"(= (to_real 1) 2.0)"}, []string{"1.0"}, "true ~ (= (to_real 1) 2.0); (to_real 1) ~ 2.0", ""},
		{[]string{"(= (f x) 1)", "(= (f y) 2)", "(= x y)"}, nil, "true ~ (= (f x) 1) ~ (= (f y) 2) ~ (= x y); x ~ y; (f x) ~ (f y) ~ 1 ~ 2", "0 1 2"},
		{[]string{"(= m #b0001)", "(= n #b0010)", "(= (l m) m)", "(= (l n) n)", "(= m n)"}, nil, "true ~ (= m #b0001) ~ (= n #b0010) ~ (= (l m) m) ~ (= (l n) n) ~ (= m n); m ~ n ~ (l m) ~ (l n) ~ #b0001 ~ #b0010", "0 1 4"},
		{[]string{"(= (* 1 x) y)", "no (= (* 2 x) y)", "(= 1 2)"}, nil, "true ~ (= (* 1 x) y) ~ (= 1 2); false ~ (= (* 2 x) y); 1 ~ 2; (* 1 x) ~ (* 2 x) ~ y", "2"},
		{[]string{"(= (+ 1 1) 3)"}, []string{"2"}, "true ~ (= (+ 1 1) 3); (+ 1 1) ~ 3", ""},
		{[]string{"(= (+ 1 1) 3)", "(= (+ 1 1) 2)"}, nil, "true ~ (= (+ 1 1) 3) ~ (= (+ 1 1) 2); (+ 1 1) ~ 3 ~ 2", "0 1"},
		{[]string{"(= x x)"}, nil, "true ~ (= x x)", ""},
		{[]string{"no (= x x)"}, nil, "false ~ (= x x)", "0"},
		{[]string{"p", "no (= (f x) (f x))", "q"}, nil, "true ~ p ~ q; false ~ (= (f x) (f x))", "1"},
	})
}

// Which facts stay where there are several cores: the first ones are left out first.
func TestStage11Cores(t *testing.T) {
	checkEqualRows(t, []equalRow{
		{[]string{"(= x 1)", "(= x 2)", "(= x 3)"}, nil, "true ~ (= x 1) ~ (= x 2) ~ (= x 3); x ~ 1 ~ 2 ~ 3", "1 2"},
		{[]string{"(= x 1)", "(= x 1)", "(= x 2)"}, nil, "true ~ (= x 1) ~ (= x 2); x ~ 1 ~ 2", "1 2"},
		{[]string{"(= x 1)", "(= x 2)", "(= x 1)"}, nil, "true ~ (= x 1) ~ (= x 2); x ~ 1 ~ 2", "1 2"},
		{[]string{"(= x 1)", "(= x 2)", "(= x 2)", "(= x 1)", "(= x 1)"}, nil, "true ~ (= x 1) ~ (= x 2); x ~ 1 ~ 2", "2 4"},
		{[]string{"p", "no p"}, nil, "true ~ false ~ p", "0 1"},
		{[]string{"no p", "p", "p"}, nil, "true ~ false ~ p", "0 2"},
		{[]string{"p", "no p", "p", "no p"}, nil, "true ~ false ~ p", "2 3"},
		{[]string{"p", "q", "no q", "no p"}, nil, "true ~ false ~ p ~ q", "1 2"},
		{[]string{"p", "q", "no p", "no q"}, nil, "true ~ false ~ p ~ q", "1 3"},
		{[]string{"no true", "false"}, nil, "true ~ false", "1"},
		{[]string{"false", "no true"}, nil, "true ~ false", "1"},
		{[]string{"(= 1 2)", "(= x y)", "no (= x y)"}, nil, "true ~ false ~ (= 1 2) ~ (= x y); x ~ y; 1 ~ 2", "1 2"},
		{[]string{"(= x y)", "no (= x y)", "(= 1 2)"}, nil, "true ~ false ~ (= 1 2) ~ (= x y); x ~ y; 1 ~ 2", "2"},
		{[]string{"(= x y)", "(= y z)", "(= x z)", "no (= x y)"}, nil, "true ~ false ~ (= x y) ~ (= y z) ~ (= x z); x ~ y ~ z", "1 2 3"},
		{[]string{"(= x z)", "(= z y)", "(= x y)", "no (= (f x) (f y))"}, nil, "true ~ (= x z) ~ (= z y) ~ (= x y); false ~ (= (f x) (f y)); x ~ y ~ z; (f x) ~ (f y)", "2 3"},
		{[]string{"(= x y)", "no (= (f x) (f y))", "(= x z)", "(= z y)"}, nil, "true ~ (= x z) ~ (= z y) ~ (= x y); false ~ (= (f x) (f y)); x ~ y ~ z; (f x) ~ (f y)", "1 2 3"},
		{[]string{"(= (f x) (f y))", "(= x y)", "no (= (f (f x)) (f (f y)))"}, nil, "true ~ (= (f x) (f y)) ~ (= x y); false ~ (= (f (f x)) (f (f y))); x ~ y; (f x) ~ (f y); (f (f x)) ~ (f (f y))", "1 2"},
		{[]string{"(= x y)", "(= (f x) (f y))", "no (= (f (f x)) (f (f y)))"}, nil, "true ~ (= (f x) (f y)) ~ (= x y); false ~ (= (f (f x)) (f (f y))); x ~ y; (f x) ~ (f y); (f (f x)) ~ (f (f y))", "1 2"},
		{[]string{"(= s t)", "p", "(= u v)", "no q", "(= v w)", "(P x)", "no (= w u)", "(= m n)"}, nil, "true ~ p ~ (= s t) ~ (= u v) ~ (= v w) ~ (P x) ~ (= m n); false ~ q ~ (= w u); s ~ t; u ~ v ~ w; m ~ n", "2 4 6"},
		{[]string{"no (= u v)", "no (= v w)", "no (= u w)", "(= u v)", "(= v w)"}, nil, "true ~ false ~ (= u v) ~ (= v w) ~ (= u w); u ~ v ~ w", "2 3 4"},
		{[]string{"no (= u w)", "no (= u v)", "no (= v w)", "(= u v)", "(= v w)"}, nil, "true ~ false ~ (= u v) ~ (= v w) ~ (= u w); u ~ v ~ w", "2 4"},
	})
}

// All facts are needed: each of the chapter's three ways to clash, with any of them first.
func TestStage11CoreOrders(t *testing.T) {
	for _, texts := range [][]string{
		{"(= (f x) y)", "(= x z)", "no (= (f z) y)"},
		{"(= x y)", "(= y z)", "(= z 1)", "(= x 2)"},
		{"(= u v)", "(Q u w)", "no (Q v w)"},
		{"p", "no p"},
		{"(= (h u) v)", "(= (h v) w)", "(= u w)", "no (= (h (h (h u))) v)"},
		{"(= a c)", "(= x y)", "(= (select a x) 3)", "(= (select c y) 4)"},
	} {
		for _, order := range orders(len(texts)) {
			var facts []string
			for _, n := range order {
				facts = append(facts, texts[n])
			}
			b, list := factsOf(t, declaredEqual, facts, []string{"(f (f x))", "q"})
			of, core := checkEqual(t, b, list)
			if !slices.Equal(core, upTo(len(texts))) {
				t.Errorf("%q: %v", facts, core)
			}
			mustBeCore(t, b, list, core)
			more := append(slices.Clone(list), impl.Fact{Term: termAt(t, b, "q")})
			many, core := checkEqual(t, b, more)
			mustBeWithin(t, of, many)
			if !slices.Equal(core, upTo(len(texts))) {
				t.Errorf("%q: %v", facts, core)
			}
		}
	}
}

// orders are all orders of n numbers.
func orders(n int) [][]int {
	if n == 0 {
		return [][]int{nil}
	}
	var all [][]int
	for _, order := range orders(n - 1) {
		for place := range n {
			all = append(all, slices.Insert(slices.Clone(order), place, n-1))
		}
	}
	return all
}
