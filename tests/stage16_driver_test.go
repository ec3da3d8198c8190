package tests

import "testing"

// Checks over each kind of terms, sat, unsat and unknown.
func TestStage16Checks(t *testing.T) {
	checkTalks(t, "", []talkRow{
		{"", nil},
		{"; nothing", nil},
		{"(check-sat)", lines("sat")},
		{"(check-sat)(check-sat)", lines("sat", "sat")},
		{"(check-sat-assuming ())", lines("sat")},
		{"(check-sat-assuming (false))", lines("unsat")},
		{"(assert false)", nil},
		{"(assert false)(check-sat)", lines("unsat")},
		{"(declare-const p Bool)(assert (or p (not p)))(check-sat)(assert (xor p p))(check-sat)", lines("sat", "unsat")},
		{"(declare-const s (_ BitVec 4))(assert (= (bvadd s s) #b0110))(check-sat)(assert (= (bvmul s #b0010) #b0101))(check-sat)", lines("sat", "unsat")},
		{"(declare-const x Int)(assert (< 2 (* 2 x)))(check-sat)(assert (< (* 2 x) 4))(check-sat)", lines("sat", "unsat")},
		{"(declare-const u Real)(assert (< 2.0 (* 2.0 u)))(check-sat)(assert (< (* 2.0 u) 4.0))(check-sat)(assert (<= u 1.0))(check-sat)", lines("sat", "sat", "unsat")},
		{"(declare-const m (Array Int Int))(declare-const i Int)(assert (= (select (store m i 5) 3) 7))(check-sat)(assert (= i 3))(check-sat)", lines("sat", "unsat")},
		{"(declare-sort U 0)(declare-const a U)(declare-const b U)(assert (= a b))(check-sat)(assert (distinct a b))(check-sat)", lines("sat", "unsat")},
		{"(declare-sort U 0)(declare-fun f (U) U)(declare-const a U)(assert (= (f (f a)) a))(check-sat)(assert (distinct (f (f (f (f a)))) a))(check-sat)", lines("sat", "unsat")},
		{stripText(60) + "(check-sat)", lines("unknown (nodes)")},
		{sizeText(60, 30) + "(check-sat)", lines("unknown (size)")},
		{pigeons(5) + "(set-steps 100)(check-sat)", lines("unknown (steps)")},
		{pigeons(3) + "(check-sat)", lines("unsat")},
	})
}

// A check knows what a definition, a let and a later declaration bring; none of them answers.
func TestStage16Silent(t *testing.T) {
	checkTalks(t, "", []talkRow{
		{"(declare-sort U 0)(declare-const a U)(declare-fun f (U) U)(define-fun d ((y U)) U (f (f y)))(push 1)(pop 1)(set-steps 5)(assert (let ((k (d a))) (= k a)))", nil},
		{"(define-fun twice ((y Int)) Int (+ y y))(declare-const x Int)(assert (= (twice x) 6))(check-sat)(get-value (x (twice (twice x))))", lines("sat", "((x 3) ((+ (+ x x) (+ x x)) 12))")},
		// a declaration is no command of the script: the check is the last one still
		{"(check-sat)(declare-const x Int)(get-model)", lines("sat", "((define-fun x () Int 0))")},
		{"(check-sat)(declare-sort U 0)(define-fun d () Int 5)(get-value (d))", lines("sat", "((5 5))")},
	})
}

// CmdValue: one term and several, the same twice, of each sort.
func TestStage16Values(t *testing.T) {
	checkTalks(t, "(declare-const p Bool)(declare-const x Int)(declare-const u Real)(declare-const s (_ BitVec 3))(assert p)(assert (= x (- 3)))(assert (= u (/ (- 5.0) 3.0)))(assert (= s #b101))(check-sat)", []talkRow{
		{"(get-value (p))", lines("sat", "((p true))")},
		{"(get-value (p p))(get-value ((not p)))", lines("sat", "((p true) (p true))", "(((not p) false))")},
		{"(get-value (true false (and p p) (= x 0)))", lines("sat", "((true true) (false false) ((and p p) true) ((= x 0) false))")},
		{"(get-value (x (- x) (+ x 3) (- 7) 7 0 (* 2 x) (div x 2) (mod x 2)))", lines("sat", "((x (- 3)) ((- x) 3) ((+ x 3) 0) ((- 7) (- 7)) (7 7) (0 0) ((* 2 x) (- 6)) ((div x 2) (- 2)) ((mod x 2) 1))")},
		{"(get-value (u (- u) (* 3.0 u) (* (- 3.0) u) (+ u (- u)) 0.50 (to_real x) (/ u 2.0)))", lines("sat", "((u (/ (- 5.0) 3.0)) ((- u) (/ 5.0 3.0)) ((* 3.0 u) (- 5.0)) ((* (- 3.0) u) 5.0) ((+ u (- u)) 0.0) ((/ 1.0 2.0) (/ 1.0 2.0)) ((to_real x) (- 3.0)) ((* (/ 1.0 2.0) u) (/ (- 5.0) 6.0)))")},
		{"(get-value (s (bvnot s) #xA ((_ extract 0 0) s) (concat s s) ((_ zero_extend 2) s) ((_ sign_extend 2) s)))", lines("sat", "((s #b101) ((bvnot s) #b010) (#b1010 #b1010) (((_ extract 0 0) s) #b1) ((concat s s) #b101101) (((_ zero_extend 2) s) #b00101) (((_ sign_extend 2) s) #b11101))")},
	})
	checkTalks(t, "(declare-sort U 0)(declare-sort |a b| 0)(declare-const a U)(declare-const b U)(declare-const |c d| |a b|)(declare-const |1| |a b|)(assert (distinct a b))(assert (distinct |c d| |1|))(check-sat)", []talkRow{
		{"(get-value (a))", lines("sat", "((a (as @0 U)))")},
		{"(get-value (b a |c d| |1| |a|))", lines("sat", "((b (as @1 U)) (a (as @0 U)) (|c d| (as @0 |a b|)) (|1| (as @1 |a b|)) (a (as @0 U)))")},
		{"(get-value ((ite (= a b) |c d| |1|) (= |c d| |1|)))", lines("sat", "(((ite (= a b) |c d| |1|) (as @1 |a b|)) ((= |c d| |1|) false))")},
	})
	// what no check speaks of has the first value
	checkTalks(t, "(declare-sort U 0)(declare-const p Bool)(declare-const x Int)(declare-const u Real)(declare-const s (_ BitVec 2))(declare-const a U)(declare-const m (Array U Int))(declare-fun f (U Int) Real)", []talkRow{
		{"(check-sat)(get-value (p x u s a m (f a x) (select m a)))", lines("sat", "((p false) (x 0) (u 0.0) (s #b00) (a (as @0 U)) (m ((as const (Array U Int)) 0)) ((f a x) 0.0) ((select m a) 0))")},
	})
}

// Arrays with no entry, with one and with several: the first is innermost.
func TestStage16ArrayValues(t *testing.T) {
	checkTalks(t, "(declare-const m (Array Int Int))", []talkRow{
		{"(check-sat)(get-value (m))", lines("sat", "((m ((as const (Array Int Int)) 0)))")},
		{"(check-sat)(get-value ((store m 1 5) (store m 1 0) (store (store m 7 8) (- 1) (- 2))))", lines("sat", "(((store m 1 5) (store ((as const (Array Int Int)) 0) 1 5)) ((store m 1 0) ((as const (Array Int Int)) 0)) "+
			"((store (store m 7 8) (- 1) (- 2)) (store (store ((as const (Array Int Int)) 0) (- 1) (- 2)) 7 8)))")},
		{"(assert (= (select m 1) 5))(assert (= (select m (- 2)) (- 7)))(assert (= (select m 10) 1))(check-sat)(get-value (m))(get-model)", lines("sat",
			"((m (store (store (store ((as const (Array Int Int)) 0) (- 2) (- 7)) 1 5) 10 1)))",
			"((define-fun m () (Array Int Int) (store (store (store ((as const (Array Int Int)) 0) (- 2) (- 7)) 1 5) 10 1)))")},
	})
	checkTalks(t, "(declare-sort |a b| 0)(declare-const e |a b|)(declare-const d |a b|)(declare-const m (Array (_ BitVec 2) |a b|))(declare-const n (Array |a b| Real))(assert (distinct d e))(check-sat)", []talkRow{
		{"(get-value (m (store m #b10 e) (store m #b10 d)))", lines("sat", "((m ((as const (Array (_ BitVec 2) |a b|)) (as @0 |a b|))) ((store m #b10 e) (store ((as const (Array (_ BitVec 2) |a b|)) (as @0 |a b|)) #b10 (as @1 |a b|))) ((store m #b10 d) ((as const (Array (_ BitVec 2) |a b|)) (as @0 |a b|))))")},
		// what is put at the index of zeros is the rest, and what it was before stands at all others
		{"(get-value ((store m #b00 e)))", lines("sat", "(((store m #b00 e) (store (store (store ((as const (Array (_ BitVec 2) |a b|)) (as @1 |a b|)) #b01 (as @0 |a b|)) #b10 (as @0 |a b|)) #b11 (as @0 |a b|))))")},
		{"(get-value ((store (store n e 0.5) d (- 0.25))))", lines("sat", "(((store (store n e (/ 1.0 2.0)) d (/ (- 1.0) 4.0)) (store (store ((as const (Array |a b| Real)) 0.0) (as @0 |a b|) (/ (- 1.0) 4.0)) (as @1 |a b|) (/ 1.0 2.0))))")},
	})
}

// CmdModel: no function, several, with arguments and without.
func TestStage16Models(t *testing.T) {
	checkTalks(t, "", []talkRow{
		{"(check-sat)(get-model)", lines("sat", "()")},
		{"(declare-sort U 0)(check-sat)(get-model)", lines("sat", "()")},
		{"(declare-const p Bool)(check-sat)(get-model)(get-model)", lines("sat", "((define-fun p () Bool false))", "((define-fun p () Bool false))")},
		{"(declare-const p Bool)(declare-const |p q| Int)(declare-const |1| Real)(assert p)(assert (= |p q| (- 4)))(assert (= |1| 0.5))(check-sat)(get-model)", lines("sat", "((define-fun p () Bool true) (define-fun |p q| () Int (- 4)) (define-fun |1| () Real (/ 1.0 2.0)))")},
		{"(declare-sort |a b| 0)(declare-const s (_ BitVec 2))(declare-const e |a b|)(declare-const m (Array |a b| (_ BitVec 2)))(assert (= (select m e) #b10))(check-sat)(get-model)", lines("sat",
			"((define-fun s () (_ BitVec 2) #b00) (define-fun e () |a b| (as @0 |a b|)) (define-fun m () (Array |a b| (_ BitVec 2)) (store ((as const (Array |a b| (_ BitVec 2))) #b00) (as @0 |a b|) #b10)))")},
	})
	// with one argument: no row, one, several; the last is innermost
	checkTalks(t, "(declare-fun f (Int) Int)", []talkRow{
		{"(check-sat)(get-model)", lines("sat", "((define-fun f ((x0 Int)) Int 0))")},
		{"(assert (= (f 1) 0))(check-sat)(get-model)", lines("sat", "((define-fun f ((x0 Int)) Int 0))")},
		{"(assert (= (f 1) (- 2)))(check-sat)(get-model)", lines("sat", "((define-fun f ((x0 Int)) Int (ite (= x0 1) (- 2) 0)))")},
		{"(assert (= (f 1) 2))(assert (= (f (- 1)) 3))(assert (= (f 7) 0))(assert (= (f 12) 4))(check-sat)(get-model)(get-value ((f 1) (f 2)))", lines("sat", "((define-fun f ((x0 Int)) Int (ite (= x0 (- 1)) 3 (ite (= x0 1) 2 (ite (= x0 12) 4 0)))))", "(((f 1) 2) ((f 2) 0))")},
	})
	// with several arguments
	checkTalks(t, "(declare-sort |a b| 0)(declare-const d |a b|)(declare-const e |a b|)(declare-fun |P Q| (Int Real) Bool)(declare-fun g (|a b| (_ BitVec 2) Int) |a b|)(assert (distinct d e))", []talkRow{
		{"(check-sat)(get-model)", lines("sat", "((define-fun d () |a b| (as @0 |a b|)) (define-fun e () |a b| (as @1 |a b|)) (define-fun |P Q| ((x0 Int) (x1 Real)) Bool false) (define-fun g ((x0 |a b|) (x1 (_ BitVec 2)) (x2 Int)) |a b| (as @0 |a b|)))")},
		{"(assert (|P Q| 1 0.5))(assert (|P Q| (- 1) (- 0.5)))(assert (= (g e #b01 4) e))(check-sat)(get-model)", lines("sat", "((define-fun d () |a b| (as @0 |a b|)) (define-fun e () |a b| (as @1 |a b|)) "+
			"(define-fun |P Q| ((x0 Int) (x1 Real)) Bool (ite (and (= x0 (- 1)) (= x1 (/ (- 1.0) 2.0))) true (ite (and (= x0 1) (= x1 (/ 1.0 2.0))) true false))) "+
			"(define-fun g ((x0 |a b|) (x1 (_ BitVec 2)) (x2 Int)) |a b| (ite (and (= x0 (as @1 |a b|)) (= x1 #b01) (= x2 4)) (as @1 |a b|) (as @0 |a b|))))")},
	})
}

// CmdCore: labels in the order of the assertions; those without one, and what is assumed, are left out.
func TestStage16Cores(t *testing.T) {
	checkTalks(t, boolConsts, []talkRow{
		{"(assert (! p :named a))(assert (! (not p) :named c))(check-sat)(get-unsat-core)", lines("unsat", "(a c)")},
		{"(assert (! (not p) :named c))(assert (! p :named a))(check-sat)(get-unsat-core)(get-unsat-core)", lines("unsat", "(c a)", "(c a)")},
		{"(assert (! q :named b))(assert (! p :named a))(assert (! r :named d))(assert (! (not p) :named c))(check-sat)(get-unsat-core)", lines("unsat", "(a c)")},
		{"(assert p)(assert (! (not p) :named c))(check-sat)(get-unsat-core)", lines("unsat", "(c)")},
		{"(assert (! p :named a))(assert (not p))(check-sat)(get-unsat-core)", lines("unsat", "(a)")},
		{"(assert p)(assert (not p))(check-sat)(get-unsat-core)", lines("unsat", "()")},
		{"(assert (! false :named |no way|))(check-sat)(get-unsat-core)", lines("unsat", "(|no way|)")},
		{"(assert (! p :named |a b|))(assert (! (=> p q) :named |1|))(assert (! r :named x))(assert (! (not q) :named z.))(check-sat)(get-unsat-core)", lines("unsat", "(|a b| |1| z.)")},
		// the opposite of an assumption is the label's alone
		{"(assert (! p :named a))(check-sat-assuming ((not p)))(get-unsat-core)", lines("unsat", "(a)")},
		{"(assert (! q :named a))(check-sat-assuming (p (not p)))(get-unsat-core)", lines("unsat", "()")},
		{"(assert (! (=> p q) :named a))(assert (! (=> q r) :named b))(check-sat-assuming (p (not r)))(get-unsat-core)(check-sat-assuming (p (not q)))(get-unsat-core)(check-sat-assuming (q (not r)))(get-unsat-core)", lines("unsat", "(a b)", "unsat", "(a)", "unsat", "(b)")},
		// of two assertions of one term the first is named
		{"(assert (! p :named a))(assert (! p :named b))(assert (! (not p) :named c))(check-sat)(get-unsat-core)", lines("unsat", "(a c)")},
		{"(assert p)(assert (! p :named b))(assert (! (not p) :named c))(check-sat)(get-unsat-core)", lines("unsat", "(c)")},
		// a label is no term: it may be as some parameter is
		{"(define-fun d ((k Int)) Bool (< k 0))(declare-const x Int)(assert (! (d x) :named k))(check-sat-assuming ((d (- x))))(get-unsat-core)", lines("unsat", "(k)")},
	})
	// assertions of several levels
	checkTalks(t, boolConsts, []talkRow{
		{"(assert (! p :named a))(push 1)(assert (! r :named b))(push 2)(assert (! (=> p q) :named c))(push 1)(assert (! (not q) :named d))(check-sat)(get-unsat-core)", lines("unsat", "(a c d)")},
		{"(push 1)(assert (! (not p) :named gone))(pop 1)(assert (! q :named a))(push 1)(assert (! p :named b))(push 1)(assert (! (not p) :named c))(check-sat)(get-unsat-core)(pop 1)(assert (! (not q) :named d))(check-sat)(get-unsat-core)", lines("unsat", "(b c)", "unsat", "(a d)")},
	})
}

// CmdProof: of no lemma, of one, and of several; ahead of them a line end.
func TestStage16Proofs(t *testing.T) {
	checkTalks(t, "", []talkRow{
		{"(assert false)(check-sat)(get-proof)", lines("unsat", "(", "(chain (1) (0) ())", ")")},
		{"(declare-const p Bool)(assert p)(assert (not p))(check-sat)(get-proof)(get-proof)", lines("unsat", "(", ")", "(", ")")},
		{boolConsts + "(assert p)(assert q)(assert (not (and p q)))(check-sat)(get-proof)", lines("unsat", "(", "(chain ((- 2) (- 3) 4) (3) ())", ")")},
		{"(declare-fun f (Int) Int)(declare-const x Int)(assert (<= x 2))(assert (= (f x) 5))(assert (< 3 x))(check-sat)(get-proof)", lines("unsat", "(", "(linear ((- 2) 8) () ((leaf 1 1)))", "(chain ((- 2) 8) (9) ())", ")")},
	})
}

// CmdEcho: marks are doubled, line ends stand as they are.
func TestStage16Echo(t *testing.T) {
	checkTalks(t, "", []talkRow{
		{`(echo "")`, lines(`""`)},
		{`(echo "a")(echo "b")`, lines(`"a"`, `"b"`)},
		{`(echo "say ""it""")(echo """")(echo """""")`, lines(`"say ""it"""`, `""""`, `""""""`)},
		{"(echo \"a\nb\n\")", lines("\"a", "b", "\"")},
		{`(echo "(; |\")`, lines(`"(; |\"`)},
		// it asks for no check, whatever was said
		{`(echo "a")(check-sat)(echo "b")(assert false)(echo "c")(check-sat)(echo "d")(get-model)`, lines(`"a"`, "sat", `"b"`, `"c"`, "unsat", `"d"`, "(error)")},
	})
}
