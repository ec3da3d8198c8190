package tests

import (
	"math/big"
	"math/rand"
	"slices"
	"strconv"
	"testing"

	"loop.example/g00007/impl"
)

// areAllShort: there is no term without a value, nor one whose value has more than ValueMax bytes.
func areAllShort(values []string) bool {
	return !slices.ContainsFunc(values, func(v string) bool { return v == "" || len(v) > impl.ValueMax })
}

// checkOneValue is the promise: a term and its image have one value, and so have a term and its sum. It says whether the model
// is one that the promise is for.
func checkOneValue(t *testing.T, b impl.Bank, s impl.Reduced, m impl.Model) bool {
	t.Helper()
	values, images := impl.Eval(b, m), impl.Eval(s.Bank, m)
	if len(values) != len(b.Terms) || len(images) != len(s.Bank.Terms) {
		t.Fatalf("%d and %d values", len(values), len(images))
	}
	if !areAllShort(values) || !areAllShort(images) {
		return false
	}
	for id, v := range values {
		if images[s.To[id]] != v {
			t.Fatalf("term %d, %s, is %s, its image %s is %s", id, short(impl.TermText(b, id)), short(v), short(impl.TermText(s.Bank, s.To[id])), short(images[s.To[id]]))
		}
	}
	return true
}

// checkSumValues is what the promise says of LinearOf, for values that a model gives.
func checkSumValues(t *testing.T, b impl.Bank, values []string) {
	t.Helper()
	for id, x := range b.Terms {
		if x.Sort != "Int" && x.Sort != "Real" {
			continue
		}
		l := checkLinear(t, b, id)
		sum := new(big.Rat)
		if l.Ok {
			sum.Add(sum, plainNumberOf(l.Const))
		}
		for _, mono := range l.Monos {
			sum.Add(sum, new(big.Rat).Mul(plainNumberOf(mono.Coef), plainNumberOf(values[mono.Term])))
		}
		if l.Ok && ratText(sum) != values[id] {
			t.Fatalf("term %d is %s, its sum %s", id, short(values[id]), short(ratText(sum)))
		}
	}
}

// A termHeap is a bank to which many terms are added fast; one that is there is not added.
type termHeap struct {
	bank  impl.Bank
	found map[string]int
}

func heapOn(b impl.Bank) *termHeap {
	h := &termHeap{impl.Bank{Sorts: b.Sorts, Funs: b.Funs}, map[string]int{}}
	for _, x := range b.Terms {
		h.add(x)
	}
	return h
}

func (h *termHeap) add(x impl.Term) int {
	p := plainRewriter{plainSums{terms: h.bank.Terms}, h.found}
	id := p.add(x)
	h.bank.Terms = p.terms
	return id
}

func (h *termHeap) op(op int, sort string, kids ...int) int { return h.add(term(op, sort, kids...)) }

// Comparisons of one multiple with a number: each sign, each divisor, each way to round, for all numbers nearby.
func TestStage8OneMono(t *testing.T) {
	for _, sort := range []string{"Int", "Real"} {
		h := heapOn(bankWith(t, []string{sort}))
		for _, coef := range []int{-4, -3, -2, -1, 1, 2, 3, 4} {
			product := h.op(impl.OpMul, sort, h.add(numeral(sort, strconv.Itoa(coef))), 0)
			for bound := -9; bound <= 9; bound++ {
				number := h.add(numeral(sort, strconv.Itoa(bound)))
				for _, op := range []int{impl.OpLe, impl.OpLt, impl.OpGe, impl.OpGt, impl.OpEq, impl.OpDistinct} {
					h.op(op, "Bool", product, number)
					h.op(op, "Bool", number, product)
				}
			}
		}
		s := checkSimplify(t, h.bank)
		for x := -120; x <= 120; x++ {
			text := ratText(big.NewRat(int64(x), 12))
			if sort == "Int" {
				text = strconv.Itoa(x / 8)
			}
			if !checkOneValue(t, h.bank, s, modelWith(text)) {
				t.Fatal("a value that is too long")
			}
		}
	}
}

// Comparisons of two sums of two constants, of which some parts fall away.
func TestStage8TwoMonos(t *testing.T) {
	for _, sort := range []string{"Int", "Real"} {
		for _, op := range []int{impl.OpLe, impl.OpLt, impl.OpGe, impl.OpGt, impl.OpEq} {
			h := heapOn(bankWith(t, []string{sort, sort}))
			multiple := func(coef string, id int) int { return h.op(impl.OpMul, sort, h.add(numeral(sort, coef)), id) }
			var left, right []int
			for _, a := range []string{"-6", "-1", "0", "2", "9"} {
				for _, b := range []string{"-4", "0", "3"} {
					left = append(left, h.op(impl.OpAdd, sort, multiple(a, 0), multiple(b, 1)), h.op(impl.OpSub, sort, multiple(b, 1), multiple(a, 0)))
				}
				for _, c := range []string{"-5", "0", "4"} {
					right = append(right, h.op(impl.OpSub, sort, h.add(numeral(sort, c)), multiple(a, 0)))
				}
			}
			for _, l := range left {
				for _, r := range right {
					h.op(op, "Bool", l, r)
				}
			}
			s := checkSimplify(t, h.bank)
			for i := range 49 {
				x, y := int64(i%7-3), int64(i/7-3)
				values := []string{strconv.FormatInt(x, 10), strconv.FormatInt(y, 10)}
				if sort == "Real" {
					values = []string{ratText(big.NewRat(x, 2)), ratText(big.NewRat(y, 3))}
				}
				if !checkOneValue(t, h.bank, s, modelWith(values...)) {
					t.Fatal("a value that is too long")
				}
			}
		}
	}
}

// All terms of one operation over OpTrue, OpFalse, two constants and their opposites, and some of two operations: which rule
// comes first is to be seen here.
func TestStage8AllLogic(t *testing.T) {
	h := heapOn(impl.Bank{Funs: []impl.Fun{{Name: "p", Sort: "Bool"}, {Name: "q", Sort: "Bool"}}, Terms: []impl.Term{constant("q", "Bool"), term(impl.OpFalse, "Bool"), constant("p", "Bool"), term(impl.OpTrue, "Bool"), term(impl.OpNot, "Bool", 0), term(impl.OpNot, "Bool", 2)}})
	ops := []int{impl.OpAnd, impl.OpOr, impl.OpXor, impl.OpImplies, impl.OpEq, impl.OpDistinct}
	for i := range 6 {
		h.op(impl.OpNot, "Bool", i)
		for j := range 6 {
			for _, op := range ops {
				h.op(op, "Bool", i, j)
			}
			for k := range 6 {
				for _, op := range []int{impl.OpIte, impl.OpAnd, impl.OpOr, impl.OpDistinct} {
					h.op(op, "Bool", i, j, k)
				}
			}
		}
	}
	r := rand.New(rand.NewSource(8))
	simple := len(h.bank.Terms)
	for range 1300 {
		i, j, k := r.Intn(simple), r.Intn(simple), r.Intn(simple)
		switch r.Intn(4) {
		case 0:
			h.op(impl.OpIte, "Bool", i, j, k)
		case 1:
			h.op(impl.OpNot, "Bool", i)
		default:
			h.op(ops[r.Intn(len(ops))], "Bool", i, j)
		}
	}
	s := checkSimplify(t, h.bank)
	if !s.Ok {
		t.Fatalf("%d terms: not Ok", len(h.bank.Terms))
	}
	for i := range 4 {
		truth := []string{"false", "true"}
		checkOneValue(t, h.bank, s, impl.Model{Interps: []impl.Interp{fixed("p", truth[i%2]), fixed("q", truth[i/2])}})
	}
}

// drawSums has sums, differences and multiples over some constants, numbers short and long, and comparisons of them.
func drawSums(r *rand.Rand, b impl.Bank, sort string, long bool) impl.Bank {
	h := heapOn(b)
	numbers := []string{"0", "1", "-1", "2", "-2", "3", "6", "-4"}
	if long {
		numbers = append(numbers, nines(30), minus(nines(30)), tenTo(29), nines(15), drawInt(r, 29), drawInt(r, 30))
	}
	if sort == "Real" {
		numbers = append(numbers, "1/2", "-2/3", "5/6")
	}
	if sort == "Real" && long {
		numbers = append(numbers, "1/"+nines(30), "-1/"+tenTo(29), drawRat(r, 15), drawRat(r, 29))
	}
	sums := upTo(len(b.Terms))
	kid := func() int { return sums[max(r.Intn(len(sums)), r.Intn(len(sums)))] }
	for range 60 {
		number := h.add(numeral(sort, numbers[r.Intn(len(numbers))]))
		switch r.Intn(6) {
		case 0:
			sums = append(sums, number)
		case 1:
			sums = append(sums, h.op(impl.OpAdd, sort, kid(), kid(), kid(), kid()))
		case 2:
			sums = append(sums, h.op(impl.OpNeg, sort, kid()))
		case 3:
			sums = append(sums, h.op(impl.OpSub, sort, kid(), kid()))
		case 4:
			sums = append(sums, h.op(impl.OpMul, sort, number, kid()))
		case 5:
			sums = append(sums, h.op(impl.OpIte, sort, h.op(impl.OpLe+r.Intn(4), "Bool", kid(), kid()), kid(), kid()))
		}
	}
	for range 60 {
		h.op([]int{impl.OpLe, impl.OpLt, impl.OpGe, impl.OpGt, impl.OpEq, impl.OpDistinct}[r.Intn(6)], "Bool", kid(), kid())
	}
	return h.bank
}

func TestStage8DrawnSums(t *testing.T) {
	r := rand.New(rand.NewSource(81))
	asked := 0
	for i := range 120 {
		sort := []string{"Int", "Real"}[i%2]
		b := drawSums(r, bankWith(t, slices.Repeat([]string{sort}, 3)), sort, i%4 > 1)
		s := checkSimplify(t, b)
		for range 6 {
			m := modelWith(drawPart(r, sort), drawPart(r, sort), drawPart(r, sort))
			if s.Ok && checkOneValue(t, b, s, m) {
				asked++
			}
		}
		checkSumValues(t, b, impl.Eval(b, modelWith(drawPart(r, sort), "1", "-3")))
	}
	if asked < 500 {
		t.Errorf("%d models of 720", asked)
	}
}

// Drawn scripts, with terms of every sort.
func TestStage8DrawnScripts(t *testing.T) {
	r := rand.New(rand.NewSource(82))
	asked, changed := 0, 0
	for range 500 {
		d := &scriptDraw{r: r}
		read := impl.ParseScript(d.script(4 + r.Intn(12)))
		if read.Err != impl.LangOk {
			continue
		}
		b := read.Script.Bank
		s := checkSimplify(t, b)
		for range 3 {
			if m := drawModel(r, b); s.Ok && checkOneValue(t, b, s, m) {
				asked++
				checkSumValues(t, b, impl.Eval(b, m))
			}
		}
		for id := range s.To {
			if b.Terms[id].Op != s.Bank.Terms[s.To[id]].Op {
				changed++
			}
		}
	}
	if asked < 500 || changed < 1000 {
		t.Errorf("%d models, %d terms with images of other operations", asked, changed)
	}
}

// Drawn banks, with calls and chains of products of long numbers.
func TestStage8DrawnBanks(t *testing.T) {
	r := rand.New(rand.NewSource(83))
	for range 12 {
		b := drawnBank(t)
		for range 60 {
			b = impl.AddTerm(b, drawRight(r, b)).Bank
			b = impl.AddTerm(b, drawCall(r, b)).Bank
		}
		s := checkSimplify(t, b)
		for range 3 {
			checkOneValue(t, b, s, drawModel(r, b))
		}
		for id := -1; id <= len(b.Terms); id++ {
			checkLinear(t, b, id)
		}
	}
}

// Numbers of ValueMax bytes, multiplied by those of NumDigits digits.
func TestStage8LongValues(t *testing.T) {
	most := nines(impl.NumDigits)
	b := parsed(t, "(declare-const x Int)(declare-const y Int)(get-value ((<= (- x y) 0) (< (- x (- "+most+")) y) (>= x (+ y "+most+")) (= (- x y) (+ (- y) x)) (ite (> x y) (- x y) (- y x)) (distinct x y (+ x 1) (- y 1))))").Script.Bank
	s := checkSimplify(t, b)
	long := []string{nines(impl.ValueMax - 2), nines(impl.ValueMax-3) + "8", minus(nines(impl.ValueMax - 3)), tenTo(impl.ValueMax - 4), "0", "-1", nines(impl.ValueMax), minus(tenTo(impl.ValueMax - 4))}
	asked := 0
	for _, x := range long {
		for _, y := range long {
			m := impl.Model{Interps: []impl.Interp{fixed("x", x), fixed("y", y)}}
			if checkOneValue(t, b, s, m) {
				asked++
				checkSumValues(t, b, impl.Eval(b, m))
			}
		}
	}
	if asked < 20 {
		t.Errorf("%d models of %d", asked, len(long)*len(long))
	}
}

// What is simplified already changes no more where it was made of few kinds of terms: each image is its own image.
func TestStage8TwiceIsOnce(t *testing.T) {
	for _, text := range []string{"(<= (+ x y) (* 2 x))", "(< (* 2 x) 3)", "(>= (* 3.0 r) s)", "(=> p q)", "(- 5 (* 3 x))", "(distinct u v (k w))", "(ite (not p) x y)", "(= (+ x y) x)"} {
		first := checkSimplify(t, parsed(t, declaredMix+"(get-value ("+text+"))").Script.Bank)
		second := checkSimplify(t, first.Bank)
		if !slices.Equal(second.To, upTo(len(first.Bank.Terms))) || !sameBank(first.Bank, second.Bank) {
			t.Errorf("%s: %v", text, second.To)
		}
	}
}
