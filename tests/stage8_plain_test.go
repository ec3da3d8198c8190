package tests

import (
	"fmt"
	"math/big"
	"reflect"
	"slices"
	"strings"
	"testing"

	"loop.example/g00007/impl"
)

// The signatures and types that the document gives: a change of one is no longer built.
var (
	_ func(impl.Bank, int) impl.Linear = impl.LinearOf
	_ func(impl.Bank) impl.Reduced     = impl.Simplify
	_                                  = struct {
		Term int
		Coef string
	}(impl.Mono{})
	_ = struct {
		Ok    bool
		Monos []impl.Mono
		Const string
	}(impl.Linear{})
	_ = struct {
		Ok   bool
		Bank impl.Bank
		To   []int
	}(impl.Reduced{})
)

// A plainSum has a number for each term, and one at -1 that stands alone; nil is none.
type plainSum map[int]*big.Rat

// plainSums is what the chapter says of LinearOf, a second time.
type plainSums struct {
	terms []impl.Term
	known map[int]plainSum
}

func (s *plainSums) at(id int) plainSum {
	if _, known := s.known[id]; !known {
		s.known[id] = s.of(s.terms[id], id)
	}
	return s.known[id]
}

// of is the sum of a term; id is where it stands, if it is none of the four that are sums of others.
func (s *plainSums) of(x impl.Term, id int) plainSum {
	sum, isSum := plainSum{-1: new(big.Rat)}, true
	count := func(by *big.Rat, kids ...int) {
		for _, kid := range kids {
			part := s.at(kid)
			isSum = isSum && part != nil
			for term, coef := range part {
				if sum[term] == nil {
					sum[term] = new(big.Rat)
				}
				sum[term].Add(sum[term], new(big.Rat).Mul(by, coef))
			}
		}
	}
	switch x.Op {
	case impl.OpNum:
		sum[-1] = plainNumberOf(x.Text)
	case impl.OpAdd:
		count(big.NewRat(1, 1), x.Kids...)
	case impl.OpSub:
		count(big.NewRat(1, 1), x.Kids[0])
		count(big.NewRat(-1, 1), x.Kids[1])
	case impl.OpNeg:
		count(big.NewRat(-1, 1), x.Kids[0])
	case impl.OpMul:
		count(plainNumberOf(s.terms[x.Kids[0]].Text), x.Kids[1])
	default:
		sum[id] = big.NewRat(1, 1)
	}
	for term, coef := range sum {
		if coef.Sign() == 0 && term >= 0 {
			delete(sum, term)
		}
		isSum = isSum && areShort(coef)
	}
	if !isSum || len(sum) > 51 {
		return nil
	}
	return sum
}

// areShort: all parts of all numbers have at most 30 digits.
func areShort(numbers ...*big.Rat) bool {
	for _, n := range numbers {
		for _, part := range []*big.Int{n.Num(), n.Denom()} {
			if len(strings.TrimPrefix(part.String(), "-")) > 30 {
				return false
			}
		}
	}
	return true
}

// monos are the terms of a sum, ascending.
func (s plainSum) monos() []int {
	var terms []int
	for term := range s {
		if term >= 0 {
			terms = append(terms, term)
		}
	}
	slices.Sort(terms)
	return terms
}

func plainLinear(b impl.Bank, id int) impl.Linear {
	if !impl.GoodBank(b) || id < 0 || id >= len(b.Terms) || b.Terms[id].Sort != "Int" && b.Terms[id].Sort != "Real" {
		return impl.Linear{}
	}
	s := plainSums{b.Terms, map[int]plainSum{}}
	sum := s.at(id)
	if sum == nil {
		return impl.Linear{}
	}
	linear := impl.Linear{Ok: true, Const: ratText(sum[-1])}
	for _, term := range sum.monos() {
		linear.Monos = append(linear.Monos, impl.Mono{Term: term, Coef: ratText(sum[term])})
	}
	return linear
}

// checkLinear holds LinearOf against the second reading; what is handed in is as before, and the answer is of its own memory.
func checkLinear(t *testing.T, b impl.Bank, id int) impl.Linear {
	t.Helper()
	kept := copied(b)
	got, want := impl.LinearOf(b, id), plainLinear(b, id)
	if len(got.Monos) == 0 {
		got.Monos = nil
	}
	if !reflect.DeepEqual(got, want) {
		t.Fatalf("LinearOf %d of %s:\n%s\nwant\n%s", id, shortBank(b), short(fmt.Sprint(got)), short(fmt.Sprint(want)))
	}
	if !sameBank(b, kept) {
		t.Fatal("LinearOf changed the bank")
	}
	return got
}

// shortBank tells the terms of a bank that is not great.
func shortBank(b impl.Bank) string {
	if len(b.Terms) > 60 {
		return fmt.Sprintf("a bank of %d terms", len(b.Terms))
	}
	return fmt.Sprintf("%+v", b.Terms)
}

// A plainRewriter is what the chapter says of Simplify, a second time: rule by rule, terms found by what they look like.
type plainRewriter struct {
	plainSums
	found map[string]int
}

// A plainFull is what a plainRewriter panics with when it would have too many terms.
type plainFull struct{}

func plainSimplify(b impl.Bank) (res impl.Reduced) {
	if !impl.GoodBank(b) {
		return impl.Reduced{}
	}
	defer func() {
		if fault := recover(); fault != nil {
			if _, isFull := fault.(plainFull); !isFull {
				panic(fault)
			}
			res = impl.Reduced{}
		}
	}()
	p := &plainRewriter{plainSums{nil, map[int]plainSum{}}, map[string]int{}}
	p.add(term(impl.OpTrue, "Bool"))
	p.add(term(impl.OpFalse, "Bool"))
	for _, x := range b.Terms {
		kids := x.Kids
		x.Kids = nil
		for _, kid := range kids {
			x.Kids = append(x.Kids, res.To[kid])
		}
		res.To = append(res.To, p.image(x))
	}
	return impl.Reduced{Ok: true, Bank: impl.Bank{Sorts: b.Sorts, Funs: b.Funs, Terms: p.terms}, To: res.To}
}

func (p *plainRewriter) add(x impl.Term) int {
	look := fmt.Sprintf("%d %q %q %d %d %v", x.Op, x.Sort, x.Text, x.A, x.B, x.Kids)
	if id, found := p.found[look]; found {
		return id
	}
	if len(p.terms) == 3000 {
		panic(plainFull{})
	}
	p.found[look] = len(p.terms)
	p.terms = append(p.terms, x)
	return len(p.terms) - 1
}

func (p *plainRewriter) isOp(id, op int) bool { return p.terms[id].Op == op }

func (p *plainRewriter) not(id int) int { return p.image(term(impl.OpNot, "Bool", id)) }

func (p *plainRewriter) and(ids ...int) int { return p.image(term(impl.OpAnd, "Bool", ids...)) }

func (p *plainRewriter) or(ids ...int) int { return p.image(term(impl.OpOr, "Bool", ids...)) }

func (p *plainRewriter) truth(so bool) int {
	if so {
		return p.add(term(impl.OpTrue, "Bool"))
	}
	return p.add(term(impl.OpFalse, "Bool"))
}

// image tries the first rule, which is for many operations, then those of the one operation, then the last.
func (p *plainRewriter) image(x impl.Term) int {
	if id, applies := p.plainTerm(x); applies {
		return id
	}
	k := x.Kids
	switch x.Op {
	case impl.OpNot, impl.OpBvNot: // 2 and 12
		if p.isOp(k[0], x.Op) {
			return p.terms[k[0]].Kids[0]
		}
	case impl.OpAnd, impl.OpOr: // 3
		return p.junction(x.Op, k)
	case impl.OpXor: // 4
		for i := range 2 {
			switch {
			case k[0] == k[1]:
				return p.truth(false)
			case p.isOp(k[i], impl.OpFalse):
				return k[1-i]
			case p.isOp(k[i], impl.OpTrue):
				return p.not(k[1-i])
			}
		}
		return p.add(term(impl.OpXor, "Bool", min(k[0], k[1]), max(k[0], k[1])))
	case impl.OpImplies: // 5
		return p.or(p.not(k[0]), k[1])
	case impl.OpIte: // 6
		if id, applies := p.choice(x); applies {
			return id
		}
	case impl.OpEq: // 7
		return p.equation(k[0], k[1])
	case impl.OpDistinct: // 8
		var rows []int
		for i := range len(k) - 1 {
			var row []int
			for j := i + 1; j < len(k); j++ {
				row = append(row, p.not(p.image(term(impl.OpEq, "Bool", k[i], k[j]))))
			}
			rows = append(rows, p.and(row...))
		}
		return p.and(rows...)
	case impl.OpAdd, impl.OpSub, impl.OpNeg, impl.OpMul: // 9
		if id, applies := p.sum(x.Sort, p.of(x, -2)); applies {
			return id
		}
	case impl.OpLe, impl.OpLt: // 10
		if id, applies := p.order(k[0], k[1], x.Op == impl.OpLt); applies {
			return id
		}
	case impl.OpGe, impl.OpGt:
		if id, applies := p.order(k[1], k[0], x.Op == impl.OpGt); applies {
			return id
		}
	case impl.OpDiv: // 11
		if p.terms[k[1]].Text == "1" {
			return k[0]
		}
	case impl.OpMod:
		if strings.TrimPrefix(p.terms[k[1]].Text, "-") == "1" {
			return p.add(numeral("Int", "0"))
		}
	}
	return p.add(x) // 13
}

// plainTerm is rule 1.
func (p *plainRewriter) plainTerm(x impl.Term) (int, bool) {
	var values []string
	for _, kid := range x.Kids {
		switch p.terms[kid].Op {
		case impl.OpTrue:
			values = append(values, "true")
		case impl.OpFalse:
			values = append(values, "false")
		case impl.OpNum:
			values = append(values, p.terms[kid].Text)
		case impl.OpBits:
			values = append(values, "#b"+p.terms[kid].Text)
		default:
			return 0, false
		}
	}
	if len(values) == 0 || x.Op == impl.OpApp {
		return 0, false
	}
	value := ""
	switch {
	case x.Op <= impl.OpDistinct:
		value = plainLogic(x.Op, values)
	case x.Op <= impl.OpToReal:
		value = plainCount(x, values)
	default:
		value = plainDigits(x, values)
	}
	switch {
	case value == "true" || value == "false":
		return p.truth(value == "true"), true
	case strings.HasPrefix(value, "#b"):
		return p.add(impl.Term{Op: impl.OpBits, Sort: x.Sort, Text: value[2:]}), true
	case areShort(plainNumberOf(value)):
		return p.add(numeral(x.Sort, value)), true
	}
	return 0, false
}

// junction is rule 3.
func (p *plainRewriter) junction(op int, kids []int) int {
	isAnd := op == impl.OpAnd
	var left []int
	for id := range p.terms {
		if slices.Contains(kids, id) && id != p.truth(isAnd) {
			left = append(left, id)
		}
	}
	for _, id := range left {
		if id == p.truth(!isAnd) || p.isOp(id, impl.OpNot) && slices.Contains(left, p.terms[id].Kids[0]) {
			return p.truth(!isAnd)
		}
	}
	switch len(left) {
	case 0:
		return p.truth(isAnd)
	case 1:
		return left[0]
	}
	return p.add(term(op, "Bool", left...))
}

// choice is rule 6.
func (p *plainRewriter) choice(x impl.Term) (int, bool) {
	k1, k2, k3 := x.Kids[0], x.Kids[1], x.Kids[2]
	switch {
	case p.isOp(k1, impl.OpTrue):
		return k2, true
	case p.isOp(k1, impl.OpFalse):
		return k3, true
	case k2 == k3:
		return k2, true
	case p.isOp(k1, impl.OpNot):
		return p.image(term(impl.OpIte, x.Sort, p.terms[k1].Kids[0], k3, k2)), true
	case p.isOp(k2, impl.OpTrue):
		return p.or(k1, k3), true
	case p.isOp(k2, impl.OpFalse):
		return p.and(p.not(k1), k3), true
	case p.isOp(k3, impl.OpTrue):
		return p.or(p.not(k1), k2), true
	case p.isOp(k3, impl.OpFalse):
		return p.and(k1, k2), true
	}
	return 0, false
}

// equation is rule 7.
func (p *plainRewriter) equation(k1, k2 int) int {
	if k1 == k2 {
		return p.truth(true)
	}
	for _, pair := range [][2]int{{k1, k2}, {k2, k1}} {
		switch p.terms[pair[0]].Op {
		case impl.OpTrue:
			return pair[1]
		case impl.OpFalse:
			return p.not(pair[1])
		}
	}
	if sort := p.terms[k1].Sort; sort == "Int" || sort == "Real" {
		if d := p.of(term(impl.OpSub, sort, k1, k2), -2); d != nil && len(d) == 1 {
			return p.truth(d[-1].Sign() == 0)
		}
	}
	return p.add(term(impl.OpEq, "Bool", min(k1, k2), max(k1, k2)))
}

// sum is what rule 9 calls so.
func (p *plainRewriter) sum(sort string, sum plainSum) (int, bool) {
	monos := sum.monos()
	hasConst := sum != nil && (len(monos) == 0 || sum[-1].Sign() != 0)
	if sum == nil || hasConst && len(monos) == 50 {
		return 0, false
	}
	var parts []int
	if hasConst {
		parts = append(parts, p.add(numeral(sort, ratText(sum[-1]))))
	}
	for _, id := range monos {
		if coef := ratText(sum[id]); coef != "1" {
			id = p.add(term(impl.OpMul, sort, p.add(numeral(sort, coef)), id))
		}
		parts = append(parts, id)
	}
	if len(parts) == 1 {
		return parts[0], true
	}
	return p.add(term(impl.OpAdd, sort, parts...)), true
}

// order is rule 10: k1 is at most k2, or below it.
func (p *plainRewriter) order(k1, k2 int, isBelow bool) (int, bool) {
	sort := p.terms[k1].Sort
	s := p.of(term(impl.OpSub, sort, k1, k2), -2)
	if s == nil {
		return 0, false
	}
	if len(s) == 1 {
		return p.truth(s[-1].Sign() < 0 || s[-1].Sign() == 0 && !isBelow), true
	}
	first := s[s.monos()[0]]
	by := new(big.Rat).Inv(first)
	if sort == "Int" {
		divisor := new(big.Int)
		for _, id := range s.monos() {
			divisor.GCD(nil, nil, divisor, new(big.Int).Abs(s[id].Num()))
		}
		by.SetFrac(big.NewInt(1), divisor)
		if first.Sign() < 0 {
			by.Neg(by)
		}
	}
	isNot := first.Sign() < 0
	isBelow = isBelow != isNot
	k := new(big.Rat).Mul(s[-1], by)
	k.Neg(k)
	scaled, isShort := plainSum{-1: new(big.Rat)}, true
	for _, id := range s.monos() {
		scaled[id] = new(big.Rat).Mul(s[id], by)
		isShort = isShort && areShort(scaled[id])
	}
	if sort == "Int" {
		k, isBelow = wholeBound(k, isBelow), false
	}
	if !isShort || !areShort(k) {
		return 0, false
	}
	sum, _ := p.sum(sort, scaled)
	op := map[bool]int{false: impl.OpLe, true: impl.OpLt}[isBelow]
	id := p.add(term(op, "Bool", sum, p.add(numeral(sort, ratText(k)))))
	if isNot {
		return p.not(id), true
	}
	return id, true
}

// wholeBound is the greatest whole number that is at most k, or below it.
func wholeBound(k *big.Rat, isBelow bool) *big.Rat {
	whole := new(big.Int).Div(k.Num(), k.Denom())
	if isBelow && k.IsInt() {
		whole.Sub(whole, big.NewInt(1))
	}
	return new(big.Rat).SetInt(whole)
}

// checkSimplify holds Simplify against the second reading; what is handed in is as before, and the answer is of its own memory.
func checkSimplify(t *testing.T, b impl.Bank) impl.Reduced {
	t.Helper()
	kept, want := copied(b), plainSimplify(b)
	got, again := impl.Simplify(b), impl.Simplify(b)
	for _, r := range []impl.Reduced{got, again} {
		if r.Ok != want.Ok || !slices.Equal(r.To, want.To) || !sameBank(r.Bank, want.Bank) {
			t.Fatalf("Simplify of %s:\n%v %v %s\nwant\n%v %v %s", shortBank(b), r.Ok, r.To, shortBank(r.Bank), want.Ok, want.To, shortBank(want.Bank))
		}
		spoil(r.Bank)
		for i := range r.To[:cap(r.To)] {
			r.To[:cap(r.To)][i] = -7
		}
	}
	if !sameBank(b, kept) {
		t.Fatal("Simplify changed the bank, or shares memory with it")
	}
	if want.Ok {
		checkReduced(t, b, want)
	}
	return want
}

// checkReduced looks at what holds of each answer whatever the rules are.
func checkReduced(t *testing.T, b impl.Bank, r impl.Reduced) {
	t.Helper()
	if !impl.GoodBank(r.Bank) || len(r.To) != len(b.Terms) {
		t.Fatalf("%s: %d images, good: %v", shortBank(b), len(r.To), impl.GoodBank(r.Bank))
	}
	for id, to := range r.To {
		if to < 0 || to >= len(r.Bank.Terms) || r.Bank.Terms[to].Sort != b.Terms[id].Sort {
			t.Fatalf("term %d of %s has the image %d", id, shortBank(b), to)
		}
	}
}
