package tests

import (
	"math/big"
	"slices"
	"strconv"
	"strings"
	"testing"

	"loop.example/g00007/impl"
)

// fault is a text with a mark, §, ahead of the node that an error is at; without a mark it is at the first byte.
type fault struct {
	err  int
	text string
}

func (f fault) bare() string {
	return strings.Replace(f.text, "§", "", 1)
}

func (f fault) at() int {
	return max(0, strings.Index(f.text, "§"))
}

// checkFaultBehind reads what stands ahead, which is right, and then the faulty text.
func checkFaultBehind(t *testing.T, ahead string, f fault) {
	t.Helper()
	r := parsed(t, ahead+f.bare())
	if r.Err != f.err || r.Tree != 0 || r.At != len(ahead)+f.at() {
		t.Errorf("%s\nErr %d, Tree %d, At %d, want Err %d, At %d", short(f.text), r.Err, r.Tree, r.At-len(ahead), f.err, f.at())
	}
}

const (
	badForm = impl.LangForm
	badName = impl.LangName
	badSort = impl.LangSort
	badTerm = impl.LangTerm
	tooMany = impl.LangMany
)

// Trees that are no commands, and commands with members that are not as the table shows.
func faultyForms() []fault {
	var faults []fault
	for _, text := range []string{"a", "1", "\"t\"", ":k", "#b1", "1.0", "()", "(())", "(1)", "(\"assert\" p)", "(:assert p)", "((assert p))", "(zoo)", "(exit)", "(Assert p)", "(set-logic QF_LIA)", "(! p :named A)", "(p)", "(let)",
		"(declare-sort)", "(declare-sort S)", "(declare-sort S 1)", "(declare-sort S 0.0)", "(declare-sort S 0 0)", "(declare-sort 1 0)", "(declare-sort (S) 0)", "(declare-sort \"S\" 0)", "(declare-sort 0)", "(declare-sort S x)", "(declare-sort S #b0)",
		"(declare-const)", "(declare-const k)", "(declare-const k Int Int)", "(declare-const (k) Int)", "(declare-const 1 Int)", "(declare-const :k Int)", "(declare-const k () Int)",
		"(declare-fun)", "(declare-fun k)", "(declare-fun k Int)", "(declare-fun k () )", "(declare-fun k Int Int)", "(declare-fun k () Int Int)", "(declare-fun 1 () Int)", "(declare-fun k (Int Int Int Int Int Int) Int)", "(declare-fun k (1 1 1 1 1 1) zoo)",
		"(define-fun)", "(define-fun k () Int)", "(define-fun k Int 1)", "(define-fun k Int Int 1)", "(define-fun k () Int 1 1)", "(define-fun 1 () Int 1)", "(define-fun k (l) Int 1)", "(define-fun k (l Int) Int 1)", "(define-fun k ((l)) Int 1)", "(define-fun k ((l Int Int)) Int 1)", "(define-fun k (()) Int 1)",
		"(define-fun k ((1 Int)) Int 1)", "(define-fun k (((l) Int)) Int 1)", "(define-fun k ((l Int) l) Int 1)", "(define-fun k ((a Int) (b Int) (c Int) (d Int) (e Int) (f Int)) Int 1)", "(define-fun and ((a zoo) (a zoo) (a zoo) (a zoo) (a zoo) (a zoo)) zoo zoo)",
		"(assert)", "(assert p p)", "(assert (!))", "(assert (! p))", "(assert (! p :named))", "(assert (! p :name A))", "(assert (! p named A))", "(assert (! p :named 1))", "(assert (! p :named \"A\"))", "(assert (! p :named (A)))", "(assert (! p :named :A))", "(assert (! p :named A B))", "(assert (! :named A p))", "(assert (! p :named A :named B))",
		"(assert (! :named A))", "(assert (|!| zoo :Named A))", "(assert ! p :named A)", "(assert (! zoo zoo))",
		"(push)", "(push 0)", "(push 51)", "(push 1 1)", "(push x)", "(push 1.0)", "(push #b1)", "(push (1))", "(push \"1\")", "(push 1000000)", "(push 999999)", "(push 100000)", "(push 18446744073709551617)", "(push " + nines(3000) + ")", "(push (- 1))",
		"(pop)", "(pop 0)", "(pop 51)", "(pop 1 1)", "(pop x)", "(pop 999999)", "(pop 1000000)", "(pop " + nines(20) + ")",
		"(check-sat 1)", "(check-sat ())", "(check-sat-assuming)", "(check-sat-assuming p)", "(check-sat-assuming p q)", "(check-sat-assuming (p) (q))", "(check-sat-assuming \"p\")",
		"(get-value)", "(get-value ())", "(get-value p)", "(get-value (p) (q))", "(get-value 1)", "(get-model 1)", "(get-model ())", "(get-unsat-core p)", "(get-proof p)", "(echo)", "(echo a)", "(echo 1)", "(echo \"a\" \"b\")", "(echo (\"a\"))", "(echo :a)",
		"(set-steps)", "(set-steps 1000000)", "(set-steps 9999999)", "(set-steps 1 1)", "(set-steps x)", "(set-steps 1.0)", "(set-steps (1))", "(set-steps (- 1))", "(set-steps " + nines(19) + ")"} {
		faults = append(faults, fault{badForm, text})
	}
	return faults
}

// Names that may not come to stand for something, sorts that are none, and what a command asks of its parts.
func faultyCommands() []fault {
	faults := []fault{
		{badName, "(declare-sort §p 0)"}, {badName, "(declare-sort §U 0)"}, {badName, "(declare-sort §f 0)"}, {badName, "(declare-sort §def 0)"}, {badName, "(declare-sort §lab 0)"}, {badName, "(declare-const §U Int)"}, {badName, "(declare-const §p zoo)"}, {badName, "(declare-const §lab Int)"}, {badName, "(declare-fun §g () Int)"}, {badName, "(declare-fun §def (zoo) zoo)"},
		{badName, "(define-fun §def () Int 1)"}, {badName, "(define-fun §p () Int 1)"}, {badName, "(define-fun §U () Int 1)"}, {badName, "(define-fun §lab () Int 1)"}, {badName, "(define-fun §f ((and zoo)) zoo zoo)"}, {badName, "(assert (! p :named §lab))"}, {badName, "(assert (! p :named §U))"}, {badName, "(assert (! p :named §p))"}, {badName, "(assert (! p :named §def))"},
		{badName, "(define-fun k ((§and Int)) Int 1)"}, {badName, "(define-fun k ((§.l Int)) Int 1)"}, {badName, "(define-fun k ((l Int) (§l Int)) Int 1)"}, {badName, "(define-fun k ((l Int) (m Int) (§l zoo)) Int 1)"}, {badName, "(define-fun k ((§|| Int)) Int 1)"}, {badName, "(define-fun k ((§bvl zoo) (m zoo)) zoo zoo)"},
		{badSort, "(declare-const k §zoo)"}, {badSort, "(declare-const k §p)"}, {badSort, "(declare-const k §lab)"}, {badSort, "(declare-const k §int)"}, {badSort, "(declare-const k §BitVec)"}, {badSort, "(declare-const k §Array)"}, {badSort, "(declare-const k §||)"}, {badSort, "(declare-const k §|(_ BitVec 3)|)"}, {badSort, "(declare-fun k (Int §zoo zoo) zoo)"}, {badSort, "(declare-fun k (Int) §zoo)"},
		{badForm, "(declare-const k §1)"}, {badForm, "(declare-const k §\"Int\")"}, {badForm, "(declare-const k §:Int)"}, {badForm, "(declare-const k §1.0)"}, {badForm, "(declare-const k §#b1)"}, {badForm, "(declare-const k §())"}, {badForm, "(declare-const k §(Int))"}, {badForm, "(declare-const k §(U))"}, {badForm, "(declare-const k §(zoo Int))"}, {badForm, "(declare-const k §((Array) Int Int))"},
		{badForm, "(declare-const k §(_ BitVec))"}, {badForm, "(declare-const k §(_ BitVec x))"}, {badForm, "(declare-const k §(_ BitVec 4 4))"}, {badForm, "(declare-const k §(_ Bitvec 4))"}, {badForm, "(declare-const k §(BitVec 4))"}, {badForm, "(declare-const k §(_ BitVec 1000000))"}, {badForm, "(declare-const k §(_ BitVec 4.0))"}, {badForm, "(declare-const k §(\"_\" BitVec 4))"}, {badForm, "(declare-const k §(_ BitVec " + nines(3000) + "))"},
		{badSort, "(declare-const k §(_ BitVec 0))"}, {badSort, "(declare-const k §(_ BitVec 65))"}, {badSort, "(declare-const k §(_ BitVec 999999))"}, {badSort, "(declare-const k §(_ BitVec 100000))"},
		{badForm, "(declare-const k §(Array))"}, {badForm, "(declare-const k §(Array Int))"}, {badForm, "(declare-const k §(Array Int Int Int))"}, {badForm, "(declare-const k §(Array zoo))"}, {badForm, "(declare-const k §(_ Array Int))"},
		{badSort, "(declare-const k §(Array Bool Int))"}, {badSort, "(declare-const k §(Array Int Bool))"}, {badSort, "(declare-const k §(Array Int (Array Int Int)))"}, {badSort, "(declare-const k §(Array (Array Int Int) Int))"}, {badSort, "(declare-const k (Array §zoo zoo))"}, {badSort, "(declare-const k (Array Bool §zoo))"}, {badForm, "(declare-const k (Array Bool §1))"}, {badSort, "(declare-const k (Array Int §(Array Bool Bool)))"}, {badSort, "(declare-const k (Array §(_ BitVec 65) 1))"},
		{badSort, "§(declare-fun k (Bool) Int)"}, {badSort, "§(declare-fun k (Int Bool) Int)"}, {badSort, "§(declare-fun k ((Array Int Int)) Int)"}, {badSort, "§(declare-fun k (Int) (Array Int Int))"}, {badSort, "(declare-fun k (Bool) §zoo)"}, {badForm, "(declare-fun k (Bool) §())"}, {badSort, "(declare-fun k (Bool (Array Int Int) §zoo) Int)"},
		{badSort, "§(define-fun k ((l Bool)) Bool l)"}, {badSort, "§(define-fun k ((l (Array Int Int))) Int 1)"}, {badSort, "§(define-fun k ((l Bool) (l zoo)) zoo zoo)"}, {badSort, "§(define-fun k ((l Int) (m Bool)) zoo zoo)"}, {badSort, "(define-fun k ((l §zoo)) Int 1)"}, {badSort, "(define-fun k ((l Int)) §zoo zoo)"}, {badForm, "(define-fun k ((l §(Int))) Int 1)"}, {badForm, "(define-fun k ((l Int)) §(Int) 1)"}, {badSort, "(define-fun k ((l Int) (m §zoo) (l Int)) Int 1)"},
		{badTerm, "(define-fun k () Int §1.0)"}, {badTerm, "(define-fun k () Bool §1)"}, {badTerm, "(define-fun k ((l Int)) Real §l)"}, {badTerm, "(define-fun k ((l Int)) Bool §(+ l 1))"}, {badName, "(define-fun k () Int §k)"}, {badName, "(define-fun k ((l Int)) Int (§k l))"}, {badName, "(define-fun k ((l Int)) Int §zoo)"}, {badTerm, "(define-fun k ((l Int) (m Int)) Int §(* l m))"}, {badTerm, "(define-fun k ((l Int)) Int §(div i l))"}, {badTerm, "(define-fun k ((l Real)) Real §(/ r l))"},
		{badTerm, "(assert §1)"}, {badTerm, "(assert §i)"}, {badTerm, "(assert §(+ i 1))"}, {badTerm, "(assert (! §1 :named B))"}, {badTerm, "(assert (! §1 :named and))"}, {badTerm, "(check-sat-assuming (§1))"}, {badTerm, "(check-sat-assuming (p §r p))"}, {badTerm, "(check-sat-assuming (§1 zoo))"}, {badName, "(check-sat-assuming (p §zoo 1))"}, {badTerm, "(get-value (p §(not 1)))"}, {badName, "(get-value (1 §zoo zap))"},
		{tooMany, "(pop 1)"}, {tooMany, "(push 1)§(pop 2)"}, {tooMany, "(push 50)§(push 1)"}, {tooMany, "(push 1)§(push 50)"}, {tooMany, "(push 50)(pop 50)§(pop 1)"}, {tooMany, "(push 25)(push 25)§(push 1)"}, {tooMany, "(push 3)(pop 2)(pop 1)§(pop 1)"},
		{badName, "(assert §k)(declare-const k Bool)"}, {badSort, "(declare-const k §S)(declare-sort S 0)"}, {badName, "(assert (= (§k 1) 1))(define-fun k ((l Int)) Int l)"}, {badName, "(define-fun k ((l Int)) Int l)(assert (= §l 1))"}, {badName, "(assert (let ((l p)) l))(assert §l)"}, {badName, "(assert (! p :named B))(assert §B)"}, {badName, "(define-fun k ((l Int)) Int l)(define-fun m () Int §l)"},
	}
	for _, taken := range append(strings.Fields(takenSymbols), "bv", "bv1", "bvx", "||", ".", ".k", strings.Repeat("n", impl.MaxSym+1)) {
		for _, text := range []string{"(declare-sort §N 0)", "(declare-const §N Int)", "(declare-fun §N (zoo) zoo)", "(define-fun §N () Int 1)", "(assert (! p :named §N))", "(define-fun k ((§N Int)) Int 1)", "(assert (let ((§N 1)) p))"} {
			faults = append(faults, fault{badName, strings.Replace(text, "N", taken, 1)})
		}
	}
	return faults
}

// Terms that are none.
func faultyTerms() []fault {
	faults := []fault{
		{badForm, "§\"t\""}, {badForm, "§:k"}, {badForm, "§()"}, {badForm, "§(1)"}, {badForm, "§(1 2)"}, {badForm, "§(\"not\" p)"}, {badForm, "§(:not p)"}, {badForm, "§(#b1 p)"}, {badForm, "§(1.0)"}, {badForm, "§(())"}, {badForm, "§((not p))"}, {badForm, "§((f i) i)"}, {badForm, "§((not) p)"}, {badForm, "§((_) p)"},
		{badForm, "§(not)"}, {badForm, "§(not p q)"}, {badForm, "§(and)"}, {badForm, "§(and p)"}, {badForm, "§(or p)"}, {badForm, "§(xor p)"}, {badForm, "§(xor p q p)"}, {badForm, "§(=> p)"}, {badForm, "§(=> p q p)"}, {badForm, "§(ite p p)"}, {badForm, "§(ite p p p p)"}, {badForm, "§(= i)"}, {badForm, "§(= i i i)"}, {badForm, "§(distinct i)"},
		{badForm, "§(+)"}, {badForm, "§(+ i)"}, {badForm, "§(-)"}, {badForm, "§(- i i i)"}, {badForm, "§(* i)"}, {badForm, "§(* 2 3 i)"}, {badForm, "§(/ r)"}, {badForm, "§(/ r 2.0 2.0)"}, {badForm, "§(<= i)"}, {badForm, "§(<= i i i)"}, {badForm, "§(< i)"}, {badForm, "§(>= i i i)"}, {badForm, "§(> i)"}, {badForm, "§(div i)"}, {badForm, "§(div i 2 2)"}, {badForm, "§(mod i)"}, {badForm, "§(to_real)"}, {badForm, "§(to_real i i)"},
		{badForm, "§(select a)"}, {badForm, "§(select a i i)"}, {badForm, "§(store a i)"}, {badForm, "§(store a i u u)"}, {badForm, "§(concat x)"}, {badForm, "§(concat x x x)"}, {badForm, "§(bvnot)"}, {badForm, "§(bvnot x x)"}, {badForm, "§(bvneg x x)"}, {badForm, "§(bvcomp x)"}, {badForm, "§(bvugt x x x)"}, {badForm, "§(bvnand x)"}, {badForm, "§(bvxnor x x x)"},
		{badForm, "§(f)"}, {badForm, "§(f i i)"}, {badForm, "§(g u)"}, {badForm, "§(g u r r)"}, {badForm, "§(i)"}, {badForm, "§(i i)"}, {badForm, "§(p p)"}, {badForm, "§(def)"}, {badForm, "§(def 1)"}, {badForm, "§(two)"}, {badForm, "§(two 1)"}, {badForm, "§(two 1 2 3)"},
		{badForm, "§(let)"}, {badForm, "§(let ((k 1)))"}, {badForm, "§(let () p)"}, {badForm, "§(let k p)"}, {badForm, "§(let (k 1) p)"}, {badForm, "§(let ((k)) p)"}, {badForm, "§(let ((k 1 1)) p)"}, {badForm, "§(let ((1 k)) p)"}, {badForm, "§(let ((k 1)) p p)"}, {badForm, "§(let ((k 1) l) p)"}, {badForm, "§(let (((k) 1)) p)"}, {badForm, "§(let p)"}, {badForm, "§(let ((and zoo) zoo) zoo)"},
		{badForm, "§(_)"}, {badForm, "§(_ bv1)"}, {badForm, "§(_ bv1 4 4)"}, {badForm, "§(_ bv 4)"}, {badForm, "§(_ bv01 4)"}, {badForm, "§(_ bv00 4)"}, {badForm, "§(_ bvx 4)"}, {badForm, "§(_ bv1x 4)"}, {badForm, "§(_ bv-1 4)"}, {badForm, "§(_ 5 4)"}, {badForm, "§(_ bv1 x)"}, {badForm, "§(_ bv1 4.0)"}, {badForm, "§(_ bv1 #b1)"}, {badForm, "§(_ zoo 4)"}, {badForm, "§(_ \"bv1\" 4)"}, {badForm, "§(_ BV1 4)"}, {badForm, "§(_ extract 1 0)"}, {badForm, "§(_ extract 1 0 x)"}, {badForm, "§(_ BitVec 4)"},
		{badForm, "§((_ extract 1 0))"}, {badForm, "§((_ extract 1 0) x x)"}, {badForm, "§((_ extract 1) x)"}, {badForm, "§((_ extract) x)"}, {badForm, "§((_ extract 1 0 0) x)"}, {badForm, "§((_ extract x 0) x)"}, {badForm, "§((_ extract 1000000 0) x)"}, {badForm, "§((_ extract 0 1000000) x)"}, {badForm, "§((_ extract 1.0 0) x)"}, {badForm, "§((_ Extract 1 0) x)"}, {badForm, "§((extract 1 0) x)"}, {badForm, "§((_ \"extract\" 1 0) x)"},
		{badForm, "§((_ zero_extend) x)"}, {badForm, "§((_ zero_extend 1 1) x)"}, {badForm, "§((_ zero_extend 1000000) x)"}, {badForm, "§((_ sign_extend x) x)"}, {badForm, "§((_ rotate_left) x)"}, {badForm, "§((_ rotate_left 1000000) x)"}, {badForm, "§((_ rotate_right 1 1) x)"}, {badForm, "§((_ repeat " + nines(30) + ") x)"}, {badForm, "§((_ repeat 2) x x)"}, {badForm, "§((_ concat 2) x)"}, {badForm, "§((_ bv1 4) x)"}, {badForm, "§((_ f 1) x)"}, {badForm, "§((_ and 1) p)"},
		{badName, "§zoo"}, {badName, "§||"}, {badName, "§and"}, {badName, "§="}, {badName, "§_"}, {badName, "§let"}, {badName, "§Int"}, {badName, "§U"}, {badName, "§f"}, {badName, "§two"}, {badName, "§lab"}, {badName, "§bvadd"}, {badName, "§bv1"}, {badName, "§!"}, {badName, "§True"}, {badName, "§.x"}, {badName, "§extract"},
		{badName, "(§zoo)"}, {badName, "(§zoo 1)"}, {badName, "(§zoo zap \"t\")"}, {badName, "( §zoo zap)"}, {badName, "(§U 1)"}, {badName, "(§lab 1)"}, {badName, "(§true)"}, {badName, "(§false p)"}, {badName, "(§! p :named A)"}, {badName, "(§Int 1)"}, {badName, "(§as p Bool)"}, {badName, "(§bvfoo x x)"}, {badName, "(§bv1 4)"}, {badName, "(§implies p p)"}, {badName, "(§|| p)"}, {badName, "(let ((k 1)) (§k 1))"},
		{badName, "(let ((§and 1)) p)"}, {badName, "(let ((§.k 1)) p)"}, {badName, "(let ((§|| 1)) p)"}, {badName, "(let ((k 1) (§k 2)) p)"}, {badName, "(let ((k 1) (l 2) (§k zoo)) p)"}, {badName, "(let ((k §k)) p)"}, {badName, "(let ((k 1) (l §k)) p)"}, {badName, "(let ((k 1)) §l)"}, {badName, "(and (let ((k p)) k) §k)"}, {badName, "(let ((§true 1)) p)"}, {badName, "(let ((k §zoo) (k 1)) p)"},
		{badTerm, "§(not 1)"}, {badTerm, "§(and p 1)"}, {badTerm, "§(or 1 p)"}, {badTerm, "§(xor p 1)"}, {badTerm, "§(=> 1 p)"}, {badTerm, "§(ite 1 p p)"}, {badTerm, "§(ite p 1 1.0)"}, {badTerm, "§(ite p p 1)"}, {badTerm, "§(= 1 1.0)"}, {badTerm, "§(= p 1)"}, {badTerm, "§(= x z)"}, {badTerm, "§(= a u)"}, {badTerm, "§(distinct 1 2 2.0)"}, {badTerm, "§(distinct p 1)"},
		{badTerm, "§(+ p p)"}, {badTerm, "§(+ 1 2.0)"}, {badTerm, "§(+ x x)"}, {badTerm, "§(- p)"}, {badTerm, "§(- i r)"}, {badTerm, "§(- x)"}, {badTerm, "§(* i i)"}, {badTerm, "§(* i j)"}, {badTerm, "§(* 2 r)"}, {badTerm, "§(* r 2)"}, {badTerm, "§(* p 2)"}, {badTerm, "§(* 2 p)"}, {badTerm, "§(* (+ 1 1) i)"}, {badTerm, "§(* (- i) i)"}, {badTerm, "§(* x x)"},
		{badTerm, "§(/ i 2)"}, {badTerm, "§(/ 1 2)"}, {badTerm, "§(/ r 2)"}, {badTerm, "§(/ i 2.0)"}, {badTerm, "§(/ 1 2.0)"}, {badTerm, "§(/ r 0.0)"}, {badTerm, "§(/ 1.0 0.00)"}, {badTerm, "§(/ r r)"}, {badTerm, "§(/ 1.0 r)"}, {badTerm, "§(/ r (- r))"}, {badTerm, "§(/ p 2.0)"}, {badTerm, "§(/ r (- 0.0))"}, {badTerm, "§(/ r (+ 1.0 1.0))"},
		{badTerm, "§(<= p p)"}, {badTerm, "§(<= i r)"}, {badTerm, "§(< x x)"}, {badTerm, "§(>= u u)"}, {badTerm, "§(> r i)"}, {badTerm, "§(div i 0)"}, {badTerm, "§(div i j)"}, {badTerm, "§(mod i 0)"}, {badTerm, "§(mod 5 i)"}, {badTerm, "§(div r 2.0)"}, {badTerm, "§(mod i 2.0)"}, {badTerm, "§(div i (- i))"}, {badTerm, "§(to_real r)"}, {badTerm, "§(to_real p)"},
		{badTerm, "§(select i i)"}, {badTerm, "§(select a r)"}, {badTerm, "§(select a u)"}, {badTerm, "§(store a i i)"}, {badTerm, "§(store a u u)"}, {badTerm, "§(store u i u)"}, {badTerm, "§(concat x i)"}, {badTerm, "§(concat 1 x)"}, {badTerm, "§(concat p p)"}, {badTerm, "§(bvnot i)"}, {badTerm, "§(bvneg p)"}, {badTerm, "§(bvadd x z)"}, {badTerm, "§(bvadd i i)"}, {badTerm, "§(bvult x z)"}, {badTerm, "§(bvsle 1 2)"},
		{badTerm, "§(bvugt x z)"}, {badTerm, "§(bvuge i i)"}, {badTerm, "§(bvsgt z x)"}, {badTerm, "§(bvsge p p)"}, {badTerm, "§(bvcomp x z)"}, {badTerm, "§(bvcomp i r)"}, {badTerm, "§(bvnand x z)"}, {badTerm, "§(bvnor i i)"}, {badTerm, "§(bvxnor z x)"},
		{badTerm, "§((_ extract 4 0) x)"}, {badTerm, "§((_ extract 0 1) x)"}, {badTerm, "§((_ extract 999999 999999) x)"}, {badTerm, "§((_ extract 0 999999) x)"}, {badTerm, "§((_ extract 0 0) i)"}, {badTerm, "§((_ zero_extend 0) x)"}, {badTerm, "§((_ sign_extend 0) x)"}, {badTerm, "§((_ zero_extend 61) x)"}, {badTerm, "§((_ sign_extend 999999) x)"}, {badTerm, "§((_ zero_extend 1) i)"}, {badTerm, "§((_ sign_extend 1) p)"},
		{badTerm, "§((_ rotate_left 4) x)"}, {badTerm, "§((_ rotate_left 5) x)"}, {badTerm, "§((_ rotate_left 999999) x)"}, {badTerm, "§((_ rotate_right 4) x)"}, {badTerm, "§((_ rotate_right 999999) x)"}, {badTerm, "§((_ rotate_left 1) z)"}, {badTerm, "§((_ rotate_left 0) i)"}, {badTerm, "§((_ rotate_right 0) p)"}, {badTerm, "§((_ rotate_right 1) i)"},
		{badTerm, "§((_ repeat 0) x)"}, {badTerm, "§((_ repeat 17) x)"}, {badTerm, "§((_ repeat 65) z)"}, {badTerm, "§((_ repeat 999999) z)"}, {badTerm, "§((_ repeat 2) i)"}, {badTerm, "§((_ repeat 0) i)"},
		{badTerm, "§(_ bv1 0)"}, {badTerm, "§(_ bv0 0)"}, {badTerm, "§(_ bv1 65)"}, {badTerm, "§(_ bv1 999999)"}, {badTerm, "§(_ bv1 1000000)"}, {badTerm, "§(_ bv1 " + nines(3000) + ")"}, {badTerm, "§(_ bv2 1)"}, {badTerm, "§(_ bv16 4)"}, {badTerm, "§(_ bv18446744073709551616 64)"}, {badTerm, "§(_ bv" + nines(3000) + " 64)"},
		{badTerm, "§(f r)"}, {badTerm, "§(f x)"}, {badTerm, "§(g r u)"}, {badTerm, "§(g u i)"}, {badTerm, "§(two 1 1.0)"}, {badTerm, "§(two p 1)"}, {badTerm, "§(same 1.0)"}, {badTerm, "§(same p)"}, {badTerm, "(same §(two 1 r))"}, {badForm, "§(same)"}, {badName, "§same"}, {badTerm, "(not §(f p))"}, {badTerm, "(and p §(= 1 u))"},
		{badTerm, "§" + nines(31)}, {badTerm, "§" + nines(19000)}, {badTerm, "(- §" + tenTo(30) + ")"}, {badTerm, "§" + tenTo(30) + ".0"}, {badTerm, "(- §" + tenTo(30) + ".5)"}, {badTerm, "§0." + strings.Repeat("0", 29) + "1"}, {badTerm, "§1." + nines(19000)}, {badTerm, "§#b" + strings.Repeat("1", 65)}, {badTerm, "§#x" + strings.Repeat("0", 17)}, {badTerm, "§#b" + strings.Repeat("1", 19000)},
		{badTerm, "§(/ 0." + strings.Repeat("0", 28) + "1 10.0)"}, {badTerm, "§(/ " + nines(30) + ".0 0.3)"},
	}
	return faults
}

// ready is what the faulty texts stand behind.
const ready = declared + "(define-fun def () Int 5)(define-fun two ((k Int) (l Int)) Int (+ k l))(define-fun same ((k Int)) Int 5)(assert (! p :named lab))"

// Each error, alone and behind what is right; and ahead of others, of which none counts.
func TestStage5Faults(t *testing.T) {
	var commands []fault
	commands = append(commands, faultyForms()...)
	commands = append(commands, faultyCommands()...)
	for _, f := range commands {
		checkFaultBehind(t, ready, f)
		checkFaultBehind(t, ready+"\n; (\n", fault{f.err, f.text + "(assert zoo)"})
		checkFaultBehind(t, ready, fault{f.err, f.text + "(zoo)(pop 1)(declare-const p zoo)"})
		checkAsPlain(t, ready+f.bare())
	}
	for _, f := range faultyTerms() {
		for _, c := range [][2]string{{"(get-value (", "))"}, {"(get-value (1 p ", " zoo))"}, {"(assert (! ", " :named and))"}, {"(assert (not ", "))(zoo)"}, {"(check-sat-assuming (p (not ", ") 1))"}, {"(define-fun par ((par Int)) U ", ")"}, {"(assert (and p ", " 1))"}, {"(assert (= (f ", ") zoo))"},
			{"(assert (let ((k 1) (l ", ") (k 1)) zoo))"}, {"(assert (let ((kk 1)) ", "))"}, {"(get-value ((two 1 ", ")))"}, {"(get-value ((bvugt (bvnot ", ") zoo)))"}, {"(get-value (((_ extract 9 0) ", ")))"}, {"(get-value ((* ", " zoo)))"}, {"(get-value ((/ 1.0 ", ")))"}, {"(get-value ((ite 1 ", " p)))"}} {
			checkFaultBehind(t, ready, fault{f.err, c[0] + f.text + c[1]})
		}
		checkAsPlain(t, ready+"(get-value ("+f.bare()+"))")
	}
}

// Of two errors in one term, or of two commands, the left one counts.
func TestStage5FirstFault(t *testing.T) {
	terms := faultyTerms()
	commands := append(faultyForms(), faultyCommands()...)
	for i, f := range terms {
		for _, j := range []int{1, 7, 31, 101} {
			other := terms[(i*j+j)%len(terms)].bare()
			if len(f.text)+len(other) > 10000 {
				continue
			}
			checkFaultBehind(t, ready, fault{f.err, "(get-value ((+ " + f.text + " " + other + ")))"})
			checkFaultBehind(t, ready, fault{f.err, "(get-value (" + f.text + " (select " + other + " " + other + ")))"})
			checkFaultBehind(t, ready, fault{badForm, "(get-value (§(not " + f.bare() + " " + other + ")))"})
			checkFaultBehind(t, ready, fault{badForm, "§(get-value (" + f.bare() + ") " + other + ")"})
			checkFaultBehind(t, ready, fault{badName, "(get-value ((§zoo " + f.bare() + " " + other + ")))"})
		}
	}
	for i, f := range commands {
		for _, j := range []int{1, 7, 31} {
			checkFaultBehind(t, ready, fault{f.err, f.text + " " + commands[(i*j+j)%len(commands)].bare()})
		}
	}
}

// The tree's own errors come ahead of all others.
func TestStage5TreeFaults(t *testing.T) {
	deep := strings.Repeat("(", impl.TreeDeep)
	for _, c := range []struct {
		text     string
		tree, at int
	}{
		{"(assert", impl.TreeOpen, 0}, {"(zoo)(assert (not p)", impl.TreeOpen, 5}, {"(assert p))", impl.TreeClose, 10}, {"(zoo) )", impl.TreeClose, 6}, {"(assert 01)", impl.TreeByte, 8}, {"(echo \"", impl.TreeByte, 6}, {"(pop 1)\\", impl.TreeByte, 7}, {"(assert {)", impl.TreeByte, 8}, {"\x00", impl.TreeByte, 0},
		{deep + "(", impl.TreeDeepErr, impl.TreeDeep}, {strings.Repeat("1 ", impl.TreeMax+1), impl.TreeMany, 2 * impl.TreeMax}, {strings.Repeat(" ", impl.TextMax+1), impl.TreeLong, 0}, {strings.Repeat("(", impl.TextMax+1), impl.TreeLong, 0}, {strings.Repeat("x", 1<<20), impl.TreeLong, 0},
	} {
		r := parsed(t, c.text)
		if r.Err != impl.LangTree || r.Tree != c.tree || r.At != c.at {
			t.Errorf("%s: Err %d, Tree %d, At %d", short(c.text), r.Err, r.Tree, r.At)
		}
	}
	text := declared + "(assert p)"
	full := text + strings.Repeat(" ", impl.TextMax-len(text))
	if r := parsed(t, full); r.Err != impl.LangOk || !sameScript(r.Script, parsed(t, text).Script) {
		t.Errorf("TextMax bytes: %d", r.Err)
	}
	if r := parsed(t, full+" "); r.Err != impl.LangTree || r.Tree != impl.TreeLong || r.At != 0 {
		t.Errorf("one byte more: %d, %d, %d", r.Err, r.Tree, r.At)
	}
	notes := impl.TreeDeep - 1
	if r := parsed(t, declared+"(assert "+strings.Repeat("(not ", notes)+"p"+strings.Repeat(")", notes)+")"); r.Err != impl.LangOk || len(r.Script.Bank.Terms) != 3+notes {
		t.Errorf("TreeDeep lists: %d", r.Err)
	}
}

// Numbers of NumDigits digits and of one more, whatever they are written as.
func TestStage5Numbers(t *testing.T) {
	half := new(big.Rat).SetFrac64(1, 2)
	power := func(n int) string {
		q := big.NewRat(1, 1)
		for range n {
			q.Mul(q, half)
		}
		return q.FloatString(n)
	}
	for _, c := range [][2]string{
		{nines(30), nines(30)}, {"(- " + nines(30) + ")", "-" + nines(30)}, {nines(30) + ".0", nines(30)}, {nines(30) + "." + strings.Repeat("0", 5000), nines(30)}, {"0." + strings.Repeat("0", 19000), "0"}, {"0." + strings.Repeat("0", 28) + "1", "1/" + tenTo(29)}, {nines(1) + "." + nines(29), nines(30) + "/" + tenTo(29)},
		{power(99), "1/" + new(big.Int).Lsh(big.NewInt(1), 99).String()}, {"(- " + power(99) + ")", "-1/" + new(big.Int).Lsh(big.NewInt(1), 99).String()}, {power(99) + "000", "1/" + new(big.Int).Lsh(big.NewInt(1), 99).String()}, {"2.50", "5/2"}, {"100.0", "100"}, {"0.20", "1/5"}, {"0.2048", "128/625"},
		{"(/ 1.0 " + nines(30) + ".0)", "1/" + nines(30)}, {"(/ " + nines(30) + ".0 " + tenTo(29) + ".0)", nines(30) + "/" + tenTo(29)},
	} {
		r := parsed(t, "(get-value ("+c[0]+"))")
		if r.Err != impl.LangOk {
			t.Errorf("%s: Err %d", short(c[0]), r.Err)
			continue
		}
		if x := r.Script.Bank.Terms[r.Script.Commands[0].Ids[0]]; x.Op != impl.OpNum || x.Text != c[1] {
			t.Errorf("%s: %+v", short(c[0]), x)
		}
	}
	for _, text := range []string{power(100), nines(1) + "." + nines(30), tenTo(30), tenTo(30) + ".0", tenTo(2499) + ".0", tenTo(2500), "0." + strings.Repeat("0", 2600) + "1", power(121), power(2600)} {
		checkFaultBehind(t, "", fault{badTerm, "(get-value (§" + text + "))"})
		checkFaultBehind(t, "", fault{badTerm, "(get-value ((- §" + text + ")))"})
	}
	for w := 1; w <= impl.MaxWidth; w++ {
		most := new(big.Int).Lsh(big.NewInt(1), uint(w))
		width := strconv.Itoa(w)
		checkFaultBehind(t, "", fault{badTerm, "(get-value (§(_ bv" + most.String() + " " + width + ")))"})
		ones := parsed(t, "(get-value ((_ bv"+most.Sub(most, big.NewInt(1)).String()+" "+width+") #b"+strings.Repeat("1", w)+"))")
		if ones.Err != impl.LangOk || len(ones.Script.Bank.Terms) != 3 || ones.Script.Bank.Terms[2].Text != strings.Repeat("1", w) {
			t.Errorf("all ones of %d bits: %+v", w, ones)
		}
	}
}

// rows is a text n times, with each time the number in the place of #.
func rows(text string, n int) string {
	var b strings.Builder
	for i := range n {
		b.WriteString(strings.ReplaceAll(text, "#", strconv.Itoa(i)))
	}
	return b.String()
}

// checkLimit: the text stands, and with one command more, which alone is right, it is LangMany at that one; but with an
// error in that one this comes first.
func checkLimit(t *testing.T, text string, more []string, first []fault) {
	t.Helper()
	if r := parsed(t, text); r.Err != impl.LangOk {
		t.Fatalf("%s: Err %d at %d", short(text), r.Err, r.At)
	}
	for _, m := range more {
		checkFaultBehind(t, text, fault{tooMany, m})
		checkFaultBehind(t, text, fault{tooMany, m + "(zoo)"})
	}
	for _, f := range first {
		checkFaultBehind(t, text, f)
	}
}

func TestStage5Limits(t *testing.T) {
	half := impl.MaxNames / 2
	for _, names := range []string{rows("(declare-const c# Int)", impl.MaxNames), rows("(declare-sort s# 0)", impl.MaxNames), rows("(declare-sort s# 0)(declare-fun f# (s# Int) s#)", half), rows("(declare-sort s# 0)", 1) + rows("(declare-const c# Int)", impl.MaxNames-1)} {
		checkLimit(t, names, []string{"(declare-const k Int)", "(declare-sort k 0)", "(declare-fun k (Int) Bool)"},
			[]fault{{badName, "(declare-sort §and 0)"}, {badName, "(declare-const §.k Int)"}, {badSort, "(declare-const k §zoo)"}, {badForm, "(declare-const k §())"}, {badSort, "§(declare-fun k (Bool) Int)"}, {badForm, "§(declare-sort k 1)"}})
		if r := parsed(t, names+"(define-fun d ((k Int) (l Int)) Int (+ k l))(assert (! true :named L))(assert (= 3 (d 1 2)))"); r.Err != impl.LangOk || len(r.Script.Bank.Terms) != 7 {
			t.Errorf("definitions, parameters and labels are no names in the bank: %d", r.Err)
		}
	}
	checkLimit(t, rows("(define-fun d# () Int #)", impl.MaxDefs), []string{"(define-fun k () Int 1)", "(define-fun k ((l Int)) Int l)"},
		[]fault{{badName, "(define-fun §d7 () Int 1)"}, {badTerm, "(define-fun k () Int §true)"}, {badName, "(define-fun k () Int §zoo)"}, {badSort, "(define-fun k () §zoo 1)"}, {badSort, "§(define-fun k ((l Bool)) Int 1)"}})
	labels := rows("(assert (! true :named L#))", impl.MaxLabels)
	checkLimit(t, labels, []string{"(assert (! false :named M))"}, []fault{{badName, "(assert (! true :named §L1))"}, {badName, "(assert (! true :named §and))"}, {badTerm, "(assert (! §1 :named M))"}})
	if r := parsed(t, labels+"(assert true)"); r.Err != impl.LangOk {
		t.Errorf("an assertion without a label: %d", r.Err)
	}
	full := rows("(declare-const c# Int)", 20) + rows("(define-fun d# () Int #)", 20) + rows("(check-sat)(get-model)(echo \"\")(assert true)(push 1)(pop 1)", impl.MaxCommands/6)
	checkLimit(t, full, []string{"(check-sat)", "(assert true)", "(push 1)", "(echo \"k\")", "(set-steps 1)", "(get-value (c0))", "(assert (! true :named L))", "(get-proof)", "(pop 1)"},
		[]fault{{badForm, "(check-sat 1)"}, {badName, "(assert §zoo)"}, {badTerm, "(assert §1)"}, {badName, "(assert (! true :named §d1))"}})
	if r := parsed(t, full+"(declare-const k Int)(declare-sort l 0)(define-fun m () Int 1)"); r.Err != impl.LangOk || len(r.Script.Commands) != impl.MaxCommands {
		t.Errorf("what adds no command: %d", r.Err)
	}
	for _, levels := range []string{rows("(push 1)", impl.MaxLevels), "(push 50)", "(push 20)(pop 10)(push 40)", "(push 50)(pop 50)(push 50)"} {
		checkLimit(t, levels, []string{"(push 1)", "(push 50)"}, []fault{{badForm, "(push 51)"}, {badForm, "(pop 51)"}})
		if r := parsed(t, levels+"(pop 50)(push 50)(pop 1)(pop 49)"); r.Err != impl.LangOk {
			t.Errorf("%s: %d at %d", levels, r.Err, r.At)
		}
		checkFaultBehind(t, levels, fault{tooMany, "(pop 50)§(pop 1)"})
		checkFaultBehind(t, levels, fault{tooMany, "(pop 1)§(pop 50)"})
	}
	five := "(declare-fun k (Int Real (_ BitVec 1) Int Int) Bool)(define-fun d ((a Int) (b Int) (c Real) (d Int) (e Int)) Real c)(get-value ((k 1 1.0 #b1 2 3) (d 1 2 3.0 4 5)))"
	if r := parsed(t, five); r.Err != impl.LangOk {
		t.Errorf("MaxArgs sorts and parameters: %d at %d", r.Err, r.At)
	}
	kids := func(n int) string { return "(distinct" + strings.Repeat(" 1", n) + ")" }
	if r := parsed(t, "(assert "+kids(impl.MaxKids)+")"); r.Err != impl.LangOk {
		t.Errorf("MaxKids kids: %d", r.Err)
	}
	checkFaultBehind(t, "", fault{badForm, "(assert §" + kids(impl.MaxKids+1) + ")"})
}

// addsExactly is a Bool term that adds n terms, numbers from a certain one on among them.
func addsExactly(n int, next *int) string {
	if n <= impl.MaxKids {
		text := "(distinct"
		for range n - 1 {
			text += " " + strconv.Itoa(*next)
			*next++
		}
		return text + ")"
	}
	parts := 2
	if n < 2000 {
		parts = (n + 48) / 49
	}
	text := "(and"
	for left := n - 1; parts > 0; parts-- {
		text += " " + addsExactly(left/parts, next)
		left -= left / parts
	}
	return text + ")"
}

func TestStage5ManyTerms(t *testing.T) {
	big := func(n int) string { return addsExactly(n, new(int)) }
	for _, n := range []int{3, 50, 51, 100, 1999, 2000, impl.MaxTerms - 2} {
		if r := parsed(t, "(assert "+big(n)+")"); r.Err != impl.LangOk || len(r.Script.Bank.Terms) != n+2 {
			t.Fatalf("%d terms: Err %d, %d", n, r.Err, len(r.Script.Bank.Terms))
		}
	}
	full := "(declare-const k Bool)(assert " + big(impl.MaxTerms-2) + ")"
	checkLimit(t, full, []string{"(assert k)", "(get-value (9999))", "(get-value (1 2 3 9999 zoo))", "(get-value ((+ 1 2)))", "(get-value ((+ 1 1.0)))", "(assert (let ((l 9999)) true))", "(assert (not true))", "(get-value ((- 1)))"},
		[]fault{{badTerm, "(get-value (§(= 1 true)))"}, {badName, "(get-value (§zoo 9999))"}, {badTerm, "(assert §1)"}})
	if r := parsed(t, full+"(assert true)(get-value (1 2 3))(declare-const l Int)(check-sat)"); r.Err != impl.LangOk || len(r.Script.Bank.Terms) != impl.MaxTerms {
		t.Errorf("what is there: %d", r.Err)
	}
	checkFaultBehind(t, "(check-sat)", fault{tooMany, "(assert " + big(impl.MaxTerms-1) + ")"})
	checkFaultBehind(t, "(check-sat)", fault{tooMany, "(assert (and " + big(impl.MaxTerms-1) + " zoo))"})
	checkFaultBehind(t, "(check-sat)", fault{tooMany, "(define-fun d () Bool " + big(impl.MaxTerms-1) + ")"})
	r := parsed(t, "(define-fun d () Bool "+big(impl.MaxTerms-2)+")(assert d)(assert d)")
	if r.Err != impl.LangOk || len(r.Script.Bank.Terms) != impl.MaxTerms {
		t.Errorf("a definition of MaxTerms terms: Err %d, %d terms", r.Err, len(r.Script.Bank.Terms))
	}
	checkFaultBehind(t, "(define-fun d () Bool "+big(impl.MaxTerms-2)+")(declare-const k Bool)(assert k)", fault{tooMany, "(assert d)"})
}

// doubled is a row of definitions: each one is twice the one ahead of it.
func doubled(n int) string {
	text := "(define-fun d0 ((k Int)) Int (+ k 1))"
	for i := range n {
		last, next := "d"+strconv.Itoa(i), "d"+strconv.Itoa(i+1)
		text += "(define-fun " + next + " ((k Int)) Int (" + last + " (" + last + " k)))"
	}
	return text
}

// Definitions in definitions grow fast, and end at MaxTerms; uses that add nothing new end soon, too.
func TestStage5ManyUses(t *testing.T) {
	r := parsed(t, doubled(11)+"(get-value ((d11 0)))")
	if r.Err != impl.LangOk || len(r.Script.Bank.Terms) != 2+2+2048 {
		t.Errorf("2048 sums: Err %d, %d terms", r.Err, len(r.Script.Bank.Terms))
	}
	checkFaultBehind(t, doubled(11), fault{tooMany, "(define-fun d12 ((k Int)) Int (d11 (d11 k)))"})
	checkFaultBehind(t, doubled(11), fault{tooMany, "(get-value ((d11 (d11 0))))"})
	many := parsed(t, doubled(11)+"(define-fun c () Int (d11 0))(get-value ("+strings.Repeat("c ", 6000)+"))")
	if many.Err != impl.LangOk || len(many.Script.Bank.Terms) != 2052 || slices.Max(many.Script.Commands[0].Ids) != slices.Min(many.Script.Commands[0].Ids) {
		t.Errorf("6000 uses: Err %d at %d", many.Err, many.At)
	}
	each := parsed(t, doubled(11)+"(define-fun c ((k Int)) Int (d11 0))(get-value ("+rows("(c #)", 900)+"))")
	if each.Err != impl.LangOk || len(each.Script.Bank.Terms) != 2052+898 {
		t.Errorf("900 uses: Err %d at %d, %d terms", each.Err, each.At, len(each.Script.Bank.Terms))
	}
}

// GoodScript knows the limits of commands, labels and levels, too: else a text could be one that is not read.
func TestStage5ScriptLimits(t *testing.T) {
	checks := func(n int) impl.Script {
		return impl.Script{Bank: impl.NewBank(), Commands: slices.Repeat([]impl.Command{{Kind: impl.CmdCheck}}, n)}
	}
	labels := func(n int) impl.Script {
		s := impl.Script{Bank: impl.NewBank()}
		for i := range n {
			s.Commands = append(s.Commands, impl.Command{Kind: impl.CmdAssert, Text: "L" + strconv.Itoa(i), Ids: []int{0}})
		}
		return s
	}
	levels := func(nums ...int) impl.Script {
		s := impl.Script{Bank: impl.NewBank()}
		for _, n := range nums {
			c := impl.Command{Kind: impl.CmdPush, Num: n}
			if n < 0 {
				c = impl.Command{Kind: impl.CmdPop, Num: -n}
			}
			s.Commands = append(s.Commands, c)
		}
		return s
	}
	for _, s := range []impl.Script{checks(impl.MaxCommands), labels(impl.MaxLabels), levels(50), levels(25, 25, -50), levels(1, -1, 50, -49, -1), {Bank: manyNames(0, impl.MaxNames)}, {Bank: manyNames(impl.MaxNames, 0)}} {
		if !impl.GoodScript(s) {
			t.Fatalf("these are good: %+v", s)
		}
		checkPromise(t, s)
	}
	for i, s := range []impl.Script{checks(impl.MaxCommands + 1), labels(impl.MaxLabels + 1), levels(50, 1), levels(25, 26), levels(-1), levels(1, -2), levels(50, -50, -1), {Bank: manyNames(0, impl.MaxNames+1)}} {
		if impl.GoodScript(s) || impl.ScriptText(s) != "" {
			t.Errorf("script %d is good", i)
		}
	}
}
