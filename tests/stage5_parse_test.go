package tests

import (
	"reflect"
	"slices"
	"strings"
	"testing"

	"loop.example/g00007/impl"
)

// The names that the scripts below use: constants of each kind of sort, and functions.
const declared = "(declare-sort U 0)(declare-const p Bool)(declare-const q Bool)(declare-const i Int)(declare-const j Int)(declare-const r Real)(declare-const u U)" +
	"(declare-const a (Array Int U))(declare-const x (_ BitVec 4))(declare-const y (_ BitVec 4))(declare-const z (_ BitVec 1))(declare-fun f (Int) Int)(declare-fun g (U Real) Bool)"

// addedTexts has the texts of all terms of a script's bank behind OpTrue and OpFalse.
func addedTexts(s impl.Script) []string {
	var texts []string
	for id := 2; id < len(s.Bank.Terms); id++ {
		texts = append(texts, plainText(s.Bank, id))
	}
	return texts
}

// checkAdds reads a term behind some commands, and looks at what is added by both, in which order; want has the texts with
// semicolons between. The term is the last of them, but where == and its text stand behind.
func checkAdds(t *testing.T, commands, text, want string) {
	t.Helper()
	r := parsed(t, declared+commands+"(get-value ("+text+"))")
	if r.Err != impl.LangOk {
		t.Errorf("%s%s: Err %d at %d", commands, text, r.Err, r.At-len(declared))
		return
	}
	adds, stands, other := strings.Cut(want, " == ")
	got := addedTexts(r.Script)
	if !other {
		stands = adds[strings.LastIndex(adds, ";")+1:]
	}
	if strings.Join(got, "; ") != adds {
		t.Errorf("%s%s\nadds %s\nwant %s", commands, text, strings.Join(got, "; "), adds)
	}
	last := r.Script.Commands[len(r.Script.Commands)-1]
	if s := plainText(r.Script.Bank, last.Ids[0]); s != strings.TrimSpace(stands) {
		t.Errorf("%s%s stands for %s, want %s", commands, text, s, stands)
	}
	checkAsPlain(t, declared+commands+"(get-value ("+text+"))")
}

// What each form of a term adds.
func TestStage5Forms(t *testing.T) {
	for _, c := range [][2]string{
		{"true", " == true"}, {"false", " == false"}, {"p", "p"}, {"|p|", "p"}, {"a", "a"}, {"(f i)", "i; (f i)"}, {"(g u r)", "u; r; (g u r)"},
		{"0", "0"}, {"12", "12"}, {"0.0", "0.0"}, {"1.50", "(/ 3.0 2.0)"}, {"1.0", "1.0"}, {"0.125", "(/ 1.0 8.0)"}, {"10.00", "10.0"}, {"#b01", "#b01"}, {"#xA5", "#b10100101"}, {"#xa", "#b1010"},
		{"(not p)", "p; (not p)"}, {"(and p q p)", "p; q; (and p q p)"}, {"(or q p)", "q; p; (or q p)"}, {"(xor p q)", "p; q; (xor p q)"}, {"(=> p q)", "p; q; (=> p q)"},
		{"(ite p i j)", "p; i; j; (ite p i j)"}, {"(ite p q true)", "p; q; (ite p q true)"}, {"(ite p a a)", "p; a; (ite p a a)"}, {"(= a a)", "a; (= a a)"}, {"(= p false)", "p; (= p false)"}, {"(distinct u u u)", "u; (distinct u u u)"}, {"(distinct p q)", "p; q; (distinct p q)"},
		{"(+ i j 3)", "i; j; 3; (+ i j 3)"}, {"(+ r 3.0)", "r; 3.0; (+ r 3.0)"}, {"(- i j)", "i; j; (- i j)"}, {"(- i)", "i; (- i)"}, {"(- r)", "r; (- r)"},
		{"(- 5)", "5; (- 5)"}, {"(- 5.5)", "(/ 11.0 2.0); (/ (- 11.0) 2.0)"}, {"(- 0)", "0; (- 0)"}, {"(- 0.00)", "0.0; (- 0.0)"}, {"(- (- 5))", "5; (- 5); (- (- 5))"}, {"(- 5 3)", "5; 3; (- 5 3)"}, {"(- 1234567)", "1234567; (- 1234567)"},
		{"(* 2 i)", "2; i; (* 2 i)"}, {"(* i 2)", "i; 2; (* 2 i)"}, {"(* 2 3)", "2; 3; (* 2 3)"}, {"(* i (- 2))", "i; 2; (- 2); (* (- 2) i)"}, {"(* r 0.5)", "r; (/ 1.0 2.0); (* (/ 1.0 2.0) r)"}, {"(* i 0)", "i; 0; (* 0 i)"},
		{"(/ r 2.0)", "r; 2.0; (/ 1.0 2.0); (* (/ 1.0 2.0) r)"}, {"(/ r (- 1.5))", "r; (/ 3.0 2.0); (/ (- 3.0) 2.0); (/ (- 2.0) 3.0); (* (/ (- 2.0) 3.0) r)"}, {"(/ 1.0 3.0)", "1.0; 3.0; (/ 1.0 3.0)"}, {"(/ r 1.0)", "r; 1.0; (* 1.0 r)"},
		{"(/ 6.0 4.0)", "6.0; 4.0; (/ 3.0 2.0)"}, {"(/ (- 5.0) 3.0)", "5.0; (- 5.0); 3.0; (/ (- 5.0) 3.0)"}, {"(/ 0.0 3.0)", "0.0; 3.0 == 0.0"}, {"(/ (/ 1.0 2.0) (/ 1.0 4.0))", "1.0; 2.0; (/ 1.0 2.0); 4.0; (/ 1.0 4.0) == 2.0"},
		{"(<= i j)", "i; j; (<= i j)"}, {"(< i j)", "i; j; (< i j)"}, {"(>= r r)", "r; (>= r r)"}, {"(> i j)", "i; j; (> i j)"},
		{"(div i 3)", "i; 3; (div i 3)"}, {"(mod i (- 3))", "i; 3; (- 3); (mod i (- 3))"}, {"(to_real i)", "i; (to_real i)"}, {"(select a i)", "a; i; (select a i)"}, {"(store a i u)", "a; i; u; (store a i u)"},
		{"((_ extract 3 1) x)", "x; ((_ extract 3 1) x)"}, {"((_ extract 0 0) z)", "z; ((_ extract 0 0) z)"}, {"((_ zero_extend 3) x)", "x; ((_ zero_extend 3) x)"}, {"((_ sign_extend 60) x)", "x; ((_ sign_extend 60) x)"}, {"(concat x z)", "x; z; (concat x z)"},
		{"(_ bv5 4)", "#b0101"}, {"(_ bv0 1)", "#b0"}, {"(_ bv18446744073709551615 64)", "#b" + strings.Repeat("1", 64)}, {"(_ |bv7| 3)", "#b111"},
		{"(not (not (not p)))", "p; (not p); (not (not p)); (not (not (not p)))"}, {"(and (= i 1) (= 1 i) (= i 1))", "i; 1; (= i 1); (= 1 i); (and (= i 1) (= 1 i) (= i 1))"},
	} {
		checkAdds(t, "", c[0], c[1])
	}
	for _, head := range []string{"bvnot", "bvneg"} {
		checkAdds(t, "", "("+head+" x)", "x; ("+head+" x)")
	}
	for _, head := range strings.Fields("bvand bvor bvxor bvadd bvsub bvmul bvudiv bvurem bvshl bvlshr bvashr bvult bvule bvslt bvsle") {
		checkAdds(t, "", "("+head+" y x)", "y; x; ("+head+" y x)")
	}
}

// The forms that the document tells behind "Also".
func TestStage5AlsoForms(t *testing.T) {
	for _, c := range [][2]string{
		{"(bvugt x y)", "x; y; (bvult y x)"}, {"(bvuge x y)", "x; y; (bvule y x)"}, {"(bvsgt x y)", "x; y; (bvslt y x)"}, {"(bvsge x y)", "x; y; (bvsle y x)"},
		{"(bvcomp x y)", "x; y; (= x y); #b1; #b0; (ite (= x y) #b1 #b0)"}, {"(bvcomp #b0 z)", "#b0; z; (= #b0 z); #b1; (ite (= #b0 z) #b1 #b0)"}, {"(bvcomp i j)", "i; j; (= i j); #b1; #b0; (ite (= i j) #b1 #b0)"},
		{"(bvnand x y)", "x; y; (bvand x y); (bvnot (bvand x y))"}, {"(bvnor x y)", "x; y; (bvor x y); (bvnot (bvor x y))"}, {"(bvxnor x y)", "x; y; (bvxor x y); (bvnot (bvxor x y))"},
		{"((_ rotate_left 0) x)", "x"}, {"((_ rotate_left 1) x)", "x; ((_ extract 2 0) x); ((_ extract 3 3) x); (concat ((_ extract 2 0) x) ((_ extract 3 3) x))"},
		{"((_ rotate_left 3) x)", "x; ((_ extract 0 0) x); ((_ extract 3 1) x); (concat ((_ extract 0 0) x) ((_ extract 3 1) x))"}, {"((_ rotate_left 0) z)", "z"},
		{"((_ rotate_right 0) x)", "x"}, {"((_ rotate_right 1) x)", "x; ((_ extract 0 0) x); ((_ extract 3 1) x); (concat ((_ extract 0 0) x) ((_ extract 3 1) x))"},
		{"((_ rotate_right 3) x)", "x; ((_ extract 2 0) x); ((_ extract 3 3) x); (concat ((_ extract 2 0) x) ((_ extract 3 3) x))"}, {"((_ rotate_right 0) z)", "z"},
		{"((_ repeat 1) x)", "x"}, {"((_ repeat 2) x)", "x; (concat x x)"}, {"((_ repeat 3) x)", "x; (concat x x); (concat x (concat x x))"}, {"((_ repeat 1) i)", "i"},
	} {
		checkAdds(t, "", c[0], c[1])
	}
	r := parsed(t, declared+"(get-value (((_ repeat 64) z) ((_ repeat 16) x)))")
	if r.Err != impl.LangOk || len(r.Script.Bank.Terms) != 2+64+16 || r.Script.Bank.Terms[81].Sort != "(_ BitVec 64)" {
		t.Errorf("repeat up to MaxWidth: %d, %d terms", r.Err, len(r.Script.Bank.Terms))
	}
}

// A let adds its terms where they are read, used or not; its names hide others and do not see each other.
func TestStage5Let(t *testing.T) {
	for _, c := range [][2]string{
		{"(let ((k 1)) k)", "1"}, {"(let ((k 1)) 2)", "1; 2"}, {"(let ((k 1) (l (f i))) (+ l k))", "1; i; (f i); (+ (f i) 1)"}, {"(let ((k (+ i 1)) (l 2)) j)", "i; 1; (+ i 1); 2; j"},
		{"(let ((k 1)) (let ((k 2)) k))", "1; 2"}, {"(let ((k 1)) (+ (let ((k 2)) k) k))", "1; 2; (+ 2 1)"}, {"(let ((k 1)) (let ((k (+ k 2))) (+ k k)))", "1; 2; (+ 1 2); (+ (+ 1 2) (+ 1 2))"},
		{"(let ((i j) (j i)) (- i j))", "j; i; (- j i)"}, {"(let ((i 1) (k i)) k)", "1; i"}, {"(let ((i 1)) i)", "1"}, {"(let ((p u)) p)", "u"},
		{"(let ((f 1)) f)", "1"}, {"(let ((U 1)) U)", "1"}, {"(let ((|k l| i)) |k l|)", "i"}, {"(let ((! 1) (named 2) (assert 3)) (+ assert ! named))", "1; 2; 3; (+ 3 1 2)"},
		{"(let ((f 1)) (f f))", "1; (f 1)"}, {"(let ((k 5)) (- k))", "5; (- 5)"}, {"(let ((k 5)) (* i k))", "5; i; (* 5 i)"}, {"(let ((k 2.0)) (/ r k))", "2.0; r; (/ 1.0 2.0); (* (/ 1.0 2.0) r)"}, {"(let ((k 3)) (div i k))", "3; i; (div i 3)"},
		{"(let ((k (let ((l p)) (not l)))) (and k k))", "p; (not p); (and (not p) (not p))"}, {"(let ((k a)) (select k 1))", "a; 1; (select a 1)"}, {"(let ((k true)) k)", " == true"},
	} {
		checkAdds(t, "", c[0], c[1])
	}
	neg := parsed(t, "(get-value ((let ((k 5)) (- k))))").Script.Bank.Terms
	if last := neg[len(neg)-1]; last.Op != impl.OpNeg {
		t.Errorf("a name for 5 is no NodInt: %+v", last)
	}
}

// Definitions stand for terms: nothing is added but where they do, and then all of it, in the order of the first time.
func TestStage5Definitions(t *testing.T) {
	for _, c := range [][3]string{
		{"(define-fun d () Int (+ i 1))", "2", "2"}, {"(define-fun d () Int (+ i 1))", "d", "i; 1; (+ i 1)"}, {"(define-fun d () Int 1)", "(+ d d)", "1; (+ 1 1)"}, {"(define-fun d () Bool true)", "(not d)", "(not true)"},
		{"(define-fun d ((k Int)) Int k)", "(d 7)", "7"}, {"(define-fun d ((k Int)) Int 3)", "(d i)", "i; 3"}, {"(define-fun d ((k Int)) Int (let ((l (+ k 9))) 3))", "(d i)", "i; 9; (+ i 9); 3"},
		{"(define-fun d ((k Int) (l Int)) Int (- l k))", "(d 1 i)", "1; i; (- i 1)"}, {"(define-fun d ((k Int) (l Int)) Int (+ l 5 k))", "(d (d 1 2) 3)", "1; 2; 5; (+ 2 5 1); 3; (+ 3 5 (+ 2 5 1))"},
		{"(define-fun d ((k Int)) Int (- k))", "(d 5)", "5; (- 5)"}, {"(define-fun d ((k Int)) Int (* 2 k))", "(d 3)", "3; 2; (* 2 3)"}, {"(define-fun d ((k Int)) Int (* k 2))", "(d 3)", "3; 2; (* 2 3)"},
		{"(define-fun d ((i Int)) Int (+ i j))", "(d 5)", "5; j; (+ 5 j)"}, {"(define-fun d ((d Int)) Int (+ d 1))", "(d i)", "i; 1; (+ i 1)"}, {"(define-fun d ((f Int)) Int (f f))", "(d i)", "i; (f i)"}, {"(define-fun d ((U Int)) Int U)", "(d i)", "i"},
		{"(define-fun d ((k (_ BitVec 4))) (_ BitVec 4) ((_ rotate_left 1) k))", "(d y)", "y; ((_ extract 2 0) y); ((_ extract 3 3) y); (concat ((_ extract 2 0) y) ((_ extract 3 3) y))"},
		{"(define-fun d ((k U) (l Real)) Bool (g k l))", "(d u 1.5)", "u; (/ 3.0 2.0); (g u (/ 3.0 2.0))"}, {"(define-fun d ((k Int)) (Array Int U) (store a k u))", "(d 1)", "1; a; u; (store a 1 u)"}, {"(define-fun d () (Array Int U) a)", "(select d 1)", "a; 1; (select a 1)"},
		{"(define-fun d ((k Int) (l Int)) Bool (= (+ k l) (+ l k)))", "(d 1 1)", "1; (+ 1 1); (= (+ 1 1) (+ 1 1))"}, {"(define-fun d ((k Int) (l Int)) Int l)", "(d (+ i 1) (f 2))", "i; 1; (+ i 1); 2; (f 2)"},
		{"(define-fun c () Int (- 4))", "(* i c)", "i; 4; (- 4); (* (- 4) i)"}, {"(define-fun c ((k Int)) Int 4)", "(* i (c j))", "i; j; 4; (* 4 i)"}, {"(define-fun c ((k Int)) Int k)", "(* i (c 4))", "i; 4; (* 4 i)"}, {"(define-fun c () Real 4.0)", "(/ r c)", "r; 4.0; (/ 1.0 4.0); (* (/ 1.0 4.0) r)"},
		{"(define-fun d () Int 1)(assert (= i 2))", "d", "i; 2; (= i 2); 1"}, {"(assert (= i 1))(define-fun d ((k Int)) Bool (= k 1))", "(d i)", "i; 1; (= i 1)"}, {"(assert (= 1 i))(define-fun d ((k Int)) Bool (= (+ k 1) (+ i 1)))", "(d j)", "1; i; (= 1 i); j; (+ j 1); (+ i 1); (= (+ j 1) (+ i 1))"},
	} {
		checkAdds(t, c[0], c[1], c[2])
	}
	neg := parsed(t, "(define-fun d ((k Int)) Int (- k))(get-value ((d 5)))").Script.Bank.Terms
	if last := neg[len(neg)-1]; last.Op != impl.OpNeg {
		t.Errorf("a parameter is no NodInt, whatever is put in: %+v", last)
	}
}

func TestStage5DefinitionsWithin(t *testing.T) {
	const one = "(define-fun one () Int 1)(define-fun up ((k Int)) Int (+ k one))"
	const all = one + "(define-fun two ((k Int) (l Int)) Bool (< (up (up k)) (- (up l) 7)))"
	for _, c := range [][3]string{
		{one, "(up 5)", "5; 1; (+ 5 1)"}, {one, "(up (up i))", "i; 1; (+ i 1); (+ (+ i 1) 1)"}, {one, "(up one)", "1; (+ 1 1)"},
		{all, "(two i j)", "i; j; 1; (+ i 1); (+ (+ i 1) 1); (+ j 1); 7; (- (+ j 1) 7); (< (+ (+ i 1) 1) (- (+ j 1) 7))"},
		{all, "(two one (up one))", "1; (+ 1 1); (+ (+ 1 1) 1); 7; (- (+ (+ 1 1) 1) 7); (< (+ (+ 1 1) 1) (- (+ (+ 1 1) 1) 7))"},
		{one + "(define-fun k2 ((k Int)) Int (up (let ((k (* 2 k))) (up k))))", "(k2 (k2 3))",
			"3; 2; (* 2 3); 1; (+ (* 2 3) 1); (+ (+ (* 2 3) 1) 1); (* 2 (+ (+ (* 2 3) 1) 1)); (+ (* 2 (+ (+ (* 2 3) 1) 1)) 1); (+ (+ (* 2 (+ (+ (* 2 3) 1) 1)) 1) 1)"},
		{one + "(define-fun none ((k Int)) Bool (let ((l (up k))) p))", "(none 4)", "4; 1; (+ 4 1); p"},
		{one + "(define-fun none ((k Int)) Bool (let ((l (up k))) p))(define-fun both ((up Int)) Bool (and (none up) (none (up up))))", "(both 4)", "4; 1; (+ 4 1); p; (+ (+ 4 1) 1); (and p p)"},
		{"(define-fun id ((k Int)) Int k)(define-fun idd ((l Int)) Int (id (id l)))", "(idd (id 9))", "9"},
		{"(define-fun id ((k Int)) Int k)(define-fun swap ((k Int) (l Int)) Int (- (id l) (id k)))(define-fun again ((k Int) (l Int)) Int (swap l k))", "(again i 2)", "i; 2; (- i 2)"},
	} {
		checkAdds(t, c[0], c[1], c[2])
	}
}

// Each command, and what it adds to the script.
func TestStage5Commands(t *testing.T) {
	type command = impl.Command
	for _, c := range []struct {
		text string
		want []command
	}{
		{"", nil}, {" ; nothing\n", nil}, {"(declare-sort V 0)", nil}, {"(declare-sort V 0)(declare-const k V)", nil}, {"(declare-fun k () U)", nil}, {"(define-fun k () Bool true)", nil},
		{"(assert true)", []command{{Kind: 1, Ids: []int{0}}}}, {"(assert (! false :named A))", []command{{Kind: 1, Text: "A", Ids: []int{1}}}}, {"(assert (! p :named |a b|))", []command{{Kind: 1, Text: "a b", Ids: []int{2}}}}, {"(assert (|!| (not p) :named !))", []command{{Kind: 1, Text: "!", Ids: []int{3}}}},
		{"(push 1)(push 49)(pop 50)", []command{{Kind: 2, Num: 1}, {Kind: 2, Num: 49}, {Kind: 3, Num: 50}}},
		{"(check-sat)", []command{{Kind: 4}}}, {"(check-sat-assuming ())", []command{{Kind: 4}}}, {"(check-sat-assuming (p true p))", []command{{Kind: 4, Ids: []int{2, 0, 2}}}},
		{"(get-value (i))", []command{{Kind: 5, Ids: []int{2}}}}, {"(get-value (a true a))", []command{{Kind: 5, Ids: []int{2, 0, 2}}}},
		{"(get-model)(get-unsat-core)(get-proof)", []command{{Kind: 6}, {Kind: 7}, {Kind: 8}}}, {"(|get-model|)", []command{{Kind: 6}}},
		{"(echo \"\")(echo \"a\"\"\nb\")", []command{{Kind: 9}, {Kind: 9, Text: "a\"\nb"}}}, {"(set-steps 0)(set-steps 999999)", []command{{Kind: 10}, {Kind: 10, Num: 999999}}},
	} {
		r := parsed(t, declared+c.text)
		if r.Err != impl.LangOk || !reflect.DeepEqual(copiedScript(r.Script).Commands, c.want) {
			t.Errorf("%s: Err %d at %d, %+v", c.text, r.Err, r.At, r.Script.Commands)
		}
	}
	r := parsed(t, "(declare-sort |a b| 0)(declare-fun f (Int |a b| (_ BitVec 64)) Bool)(declare-sort U 0)(declare-fun g () (Array U |a b|))(declare-const |h i| Real)(declare-const k (Array (_ BitVec 1) Real))")
	want := impl.Bank{Sorts: []string{"a b", "U"}, Terms: impl.NewBank().Terms, Funs: []impl.Fun{{Name: "f", Args: []string{"Int", "|a b|", "(_ BitVec 64)"}, Sort: "Bool"}, {Name: "g", Sort: "(Array U |a b|)"}, {Name: "h i", Sort: "Real"}, {Name: "k", Sort: "(Array (_ BitVec 1) Real)"}}}
	if r.Err != impl.LangOk || !sameBank(r.Script.Bank, want) {
		t.Errorf("Err %d, %+v", r.Err, r.Script.Bank)
	}
}

// What is read is memory of its own, list by list.
func TestStage5IsNew(t *testing.T) {
	text := declared + "(define-fun d ((k Int)) Int (+ k 1 k))(assert (! (= (d i) (d j) ) :named A))(check-sat-assuming (p (not p)))(get-value (i (d i)))"
	first := parsed(t, text)
	if first.Err != impl.LangOk {
		t.Fatal(first.Err)
	}
	kept := copiedScript(first.Script)
	for i := range first.Script.Commands {
		one := parsed(t, text).Script
		ids := one.Commands[i].Ids
		for j := range ids {
			ids[j] = -1
		}
		if !sameBank(one.Bank, kept.Bank) {
			t.Fatalf("command %d shares its Ids with a term", i)
		}
		one.Commands[i] = kept.Commands[i]
		if !sameScript(one, kept) {
			t.Fatalf("command %d shares its Ids with another", i)
		}
	}
	for i := range kept.Bank.Terms {
		one := parsed(t, text).Script
		kids := one.Bank.Terms[i].Kids
		for j := range kids[:cap(kids)] {
			kids[:cap(kids)][j] = -1
		}
		one.Bank.Terms[i].Kids = slices.Clone(kept.Bank.Terms[i].Kids)
		if !sameScript(one, kept) {
			t.Fatalf("term %d shares its Kids with another", i)
		}
	}
	spoil(first.Script.Bank)
	if !sameScript(parsed(t, text).Script, kept) {
		t.Error("two answers share memory")
	}
}
