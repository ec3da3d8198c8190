package tests

import (
	"fmt"
	"math/big"
	"slices"
	"strconv"
	"testing"

	"loop.example/g00007/impl"
)

// The signature, the types and the limits that the document gives: a change of one is no longer built.
var (
	_ func(impl.Bank, []int, []int) impl.Cnf = impl.Clauses
	_                                        = struct {
		Lit  int
		Term int
	}(impl.Atom{})
	_ = struct {
		Ok      bool
		Vars    int
		Clauses [][]int
		Roots   int
		Atoms   []impl.Atom
		Bits    [][]int
		Lits    []int
	}(impl.Cnf{})
	_ = [1]int{}[impl.MaxVars-60000]
	_ = [1]int{}[impl.MaxClauses-200000]
)

// The literals T and F of the chapter.
const (
	litT = 1
	litF = -1
)

// A plainClauser is what the chapter says of Clauses, a second time: its formulas, step by step, gates found by their texts.
type plainClauser struct {
	impl.Cnf
	terms []impl.Term
	gates map[string]int
}

func plainClauses(b impl.Bank, roots, shared []int) (res impl.Cnf) {
	if !impl.GoodBank(b) {
		return impl.Cnf{}
	}
	all := append(slices.Clone(roots), shared...)
	for _, id := range all {
		if id < 0 || id >= len(b.Terms) || b.Terms[id].Sort != "Bool" {
			return impl.Cnf{}
		}
	}
	defer func() {
		if fault := recover(); fault != nil {
			if _, isFull := fault.(plainFull); !isFull {
				panic(fault)
			}
			res = impl.Cnf{}
		}
	}()
	p := &plainClauser{terms: b.Terms, gates: map[string]int{}}
	p.Ok, p.Lits, p.Bits = true, make([]int, len(b.Terms)), make([][]int, len(b.Terms))
	p.says(p.fresh())
	for _, id := range impl.Reached(b, all) {
		if x := b.Terms[id]; x.Sort == "Bool" {
			p.Lits[id] = p.literal(x, id)
		} else if x.Op == impl.OpIte || x.Op == impl.OpDiv || x.Op == impl.OpMod {
			return impl.Cnf{}
		} else if w := wordWidth(x.Sort); w > 0 {
			p.Bits[id] = p.word(x, w)
		}
	}
	p.Roots = len(p.Clauses)
	for _, root := range roots {
		p.says(p.Lits[root])
	}
	return p.Cnf
}

func (p *plainClauser) fresh() int {
	if p.Vars == 60000 {
		panic(plainFull{})
	}
	p.Vars++
	return p.Vars
}

func (p *plainClauser) says(lits ...int) {
	if len(p.Clauses) == 200000 {
		panic(plainFull{})
	}
	p.Clauses = append(p.Clauses, lits)
}

// gate finds what stands for a pair. A new one says a clause for each row of signs: of its own variable and of the pair's two, 0
// where one of them is not in the clause.
func (p *plainClauser) gate(kind string, x, y int, rows [][3]int) int {
	text := kind + strconv.Itoa(x) + "," + strconv.Itoa(y)
	if g, isThere := p.gates[text]; isThere {
		return g
	}
	g := p.fresh()
	p.gates[text] = g
	for _, signs := range rows {
		var clause []int
		for place, lit := range []int{g, x, y} {
			if signs[place] != 0 {
				clause = append(clause, signs[place]*lit)
			}
		}
		p.says(clause...)
	}
	return g
}

func (p *plainClauser) AND(x, y int) int {
	if x == litF || y == litF || x == -y {
		return litF
	}
	if x == litT {
		return y
	}
	if y == litT || x == y {
		return x
	}
	if x*x > y*y {
		x, y = y, x
	}
	return p.gate("and", x, y, [][3]int{{-1, 1, 0}, {-1, 0, 1}, {1, -1, -1}})
}

func (p *plainClauser) XOR(x, y int) int {
	for _, pair := range [][2]int{{x, y}, {y, x}} {
		if pair[0] == litT {
			return -pair[1]
		}
		if pair[0] == litF {
			return pair[1]
		}
	}
	if x == y {
		return litF
	}
	if x == -y {
		return litT
	}
	sign := 1
	if x < 0 {
		x, sign = -x, -sign
	}
	if y < 0 {
		y, sign = -y, -sign
	}
	return sign * p.gate("xor", min(x, y), max(x, y), [][3]int{{-1, 1, 1}, {-1, -1, -1}, {1, -1, 1}, {1, 1, -1}})
}

func (p *plainClauser) OR(x, y int) int {
	return -p.AND(-x, -y)
}

func (p *plainClauser) ITE(c, x, y int) int {
	left := p.AND(c, x)
	right := p.AND(-c, y)
	return p.OR(left, right)
}

func (p *plainClauser) ADD(x, y []int, c int) []int {
	var sum []int
	for i := range x {
		both := p.XOR(x[i], y[i])
		sum = append(sum, p.XOR(both, c))
		left := p.AND(x[i], y[i])
		right := p.AND(c, both)
		c = p.OR(left, right)
	}
	return sum
}

func (p *plainClauser) LESS(x, y []int) int {
	l := litF
	for i := range x {
		differ := p.XOR(x[i], y[i])
		l = p.ITE(differ, y[i], l)
	}
	return l
}

func (p *plainClauser) literal(x impl.Term, id int) int {
	var k []int
	var words [][]int
	for _, kid := range x.Kids {
		k = append(k, p.Lits[kid])
		words = append(words, p.Bits[kid])
	}
	isAtom := false
	answer := 0
	switch x.Op {
	case impl.OpTrue:
		answer = litT
	case impl.OpFalse:
		answer = litF
	case impl.OpNot:
		answer = -k[0]
	case impl.OpAnd, impl.OpOr, impl.OpXor:
		answer = k[0]
		for _, next := range k[1:] {
			answer = map[int]func(x, y int) int{impl.OpAnd: p.AND, impl.OpOr: p.OR, impl.OpXor: p.XOR}[x.Op](answer, next)
		}
	case impl.OpImplies:
		answer = p.OR(-k[0], k[1])
	case impl.OpIte:
		answer = p.ITE(k[0], k[1], k[2])
	case impl.OpLe, impl.OpLt:
		isAtom, answer = true, p.fresh()
	case impl.OpApp:
		isAtom, answer = len(k) > 0, p.fresh()
	case impl.OpEq:
		isAtom, answer = p.equation(p.terms[x.Kids[0]].Sort, k, words)
	case impl.OpBvUlt, impl.OpBvUle, impl.OpBvSlt, impl.OpBvSle:
		answer = p.order(x.Op, slices.Clone(words[0]), slices.Clone(words[1]))
	default:
		panic(plainFull{}) // a term that is to be lowered first
	}
	if isAtom {
		p.Atoms = append(p.Atoms, impl.Atom{Lit: answer, Term: id})
	}
	return answer
}

func (p *plainClauser) equation(sort string, k []int, words [][]int) (isAtom bool, answer int) {
	if sort == "Bool" {
		return false, -p.XOR(k[0], k[1])
	}
	if wordWidth(sort) == 0 {
		return true, p.fresh()
	}
	e := litT
	for i := range words[0] {
		differ := p.XOR(words[0][i], words[1][i])
		e = p.AND(e, -differ)
	}
	return true, e
}

func (p *plainClauser) order(op int, x, y []int) int {
	top := len(x) - 1
	switch op {
	case impl.OpBvUlt:
		return p.LESS(x, y)
	case impl.OpBvUle:
		return -p.LESS(y, x)
	case impl.OpBvSlt:
		x[top], y[top] = -x[top], -y[top]
		return p.LESS(x, y)
	}
	x[top], y[top] = -x[top], -y[top]
	return -p.LESS(y, x)
}

// times is a word of one literal.
func times(n, lit int) []int {
	var word []int
	for range n {
		word = append(word, lit)
	}
	return word
}

func against(x []int) []int {
	var word []int
	for _, lit := range x {
		word = append(word, -lit)
	}
	return word
}

func (p *plainClauser) word(x impl.Term, w int) []int {
	var k [][]int
	for _, kid := range x.Kids {
		k = append(k, p.Bits[kid])
	}
	var word []int
	switch x.Op {
	case impl.OpBits:
		for _, digit := range x.Text {
			word = append(word, map[rune]int{'0': litF, '1': litT}[digit])
		}
		slices.Reverse(word)
	case impl.OpApp, impl.OpSelect:
		for range w {
			word = append(word, p.fresh())
		}
	case impl.OpBvNot:
		word = against(k[0])
	case impl.OpBvNeg:
		word = p.ADD(times(w, litF), against(k[0]), litT)
	case impl.OpConcat:
		word = append(slices.Clone(k[1]), k[0]...)
	case impl.OpExtract:
		for i := x.B; i <= x.A; i++ {
			word = append(word, k[0][i])
		}
	case impl.OpZext:
		word = append(slices.Clone(k[0]), times(x.A, litF)...)
	case impl.OpSext:
		word = append(slices.Clone(k[0]), times(x.A, k[0][len(k[0])-1])...)
	default:
		word = p.counted(x.Op, k[0], k[1])
	}
	return word
}

func (p *plainClauser) counted(op int, x, y []int) []int {
	switch op {
	case impl.OpBvAdd:
		return p.ADD(x, y, litF)
	case impl.OpBvSub:
		return p.ADD(x, against(y), litT)
	case impl.OpBvMul:
		s := times(len(x), litF)
		for i := range y {
			var z []int
			for k := range x {
				if k < i {
					z = append(z, litF)
				} else {
					z = append(z, p.AND(x[k-i], y[i]))
				}
			}
			s = p.ADD(s, z, litF)
		}
		return s
	case impl.OpBvDiv:
		q, _ := p.divided(x, y)
		return q
	case impl.OpBvRem:
		_, r := p.divided(x, y)
		return r
	case impl.OpBvShl, impl.OpBvShr, impl.OpBvSar:
		return p.shifted(op, x, y)
	}
	var word []int
	for i := range x {
		switch op {
		case impl.OpBvAnd:
			word = append(word, p.AND(x[i], y[i]))
		case impl.OpBvOr:
			word = append(word, p.OR(x[i], y[i]))
		case impl.OpBvXor:
			word = append(word, p.XOR(x[i], y[i]))
		}
	}
	return word
}

func (p *plainClauser) divided(x, y []int) (q, r []int) {
	w := len(x)
	q, r = make([]int, w), times(w+1, litF)
	yF := append(slices.Clone(y), litF)
	for i := w - 1; i >= 0; i-- {
		for k := w; k > 0; k-- {
			r[k] = r[k-1]
		}
		r[0] = x[i]
		d := p.ADD(r, against(yF), litT)
		q[i] = -p.LESS(r, yF)
		for k := range r {
			r[k] = p.ITE(q[i], d[k], r[k])
		}
	}
	return q, r[:w]
}

func (p *plainClauser) shifted(op int, x, y []int) []int {
	w := len(x)
	top := x[w-1]
	isBelow := func(k int) bool { return twoTo(k).Cmp(big.NewInt(int64(w))) < 0 }
	s := slices.Clone(x)
	for k := range y {
		if !isBelow(k) {
			continue
		}
		before := slices.Clone(s)
		for j := range s {
			from := j + 1<<k
			if op == impl.OpBvShl {
				from = j - 1<<k
			}
			bit := litF
			if from >= 0 && from < w {
				bit = before[from]
			} else if op == impl.OpBvSar {
				bit = top
			}
			s[j] = p.ITE(y[k], bit, before[j])
		}
	}
	o := litF
	for k := range y {
		if !isBelow(k) {
			o = p.OR(o, y[k])
		}
	}
	for j := range s {
		if op == impl.OpBvSar {
			s[j] = p.ITE(o, top, s[j])
		} else {
			s[j] = p.AND(-o, s[j])
		}
	}
	return s
}

// sameCnf: empty and nil lists are the same.
func sameCnf(a, b impl.Cnf) bool {
	return a.Ok == b.Ok && a.Vars == b.Vars && a.Roots == b.Roots && slices.Equal(a.Atoms, b.Atoms) && slices.Equal(a.Lits, b.Lits) &&
		slices.EqualFunc(a.Clauses, b.Clauses, slices.Equal) && slices.EqualFunc(a.Bits, b.Bits, slices.Equal)
}

// shortCnf tells an answer that is not great.
func shortCnf(c impl.Cnf) string {
	if len(c.Clauses) > 400 {
		return fmt.Sprintf("%v, %d variables, %d clauses, %d of them ahead of the roots, %d atoms", c.Ok, c.Vars, len(c.Clauses), c.Roots, len(c.Atoms))
	}
	return fmt.Sprintf("%+v", c)
}

// overwrite writes over all of a list, to the end of its memory.
func overwrite(lists ...[]int) {
	for _, list := range lists {
		for i := range list[:cap(list)] {
			list[:cap(list)][i] = -7
		}
	}
}

// checkClauses holds Clauses against the second reading; what is handed in is as before, and the answer is of its own memory.
func checkClauses(t *testing.T, b impl.Bank, roots, shared []int) impl.Cnf {
	t.Helper()
	kept, keptRoots, keptShared, want := copied(b), slices.Clone(roots), slices.Clone(shared), plainClauses(b, roots, shared)
	got, again := impl.Clauses(b, roots, shared), impl.Clauses(b, roots, shared)
	for _, c := range []impl.Cnf{got, again} {
		if !sameCnf(c, want) {
			t.Fatalf("Clauses of %s by %v and %v:\n%s\nwant\n%s", shortBank(b), roots, shared, shortCnf(c), shortCnf(want))
		}
		overwrite(c.Clauses...)
		overwrite(c.Bits...)
		overwrite(c.Lits)
		for i := range c.Atoms[:cap(c.Atoms)] {
			c.Atoms[:cap(c.Atoms)][i] = impl.Atom{Lit: -7, Term: -7}
		}
	}
	if !sameBank(b, kept) || !slices.Equal(roots, keptRoots) || !slices.Equal(shared, keptShared) {
		t.Fatal("Clauses changed what it was given, or shares memory with it")
	}
	if want.Ok {
		checkCnf(t, b, roots, shared, want)
	}
	return want
}

// checkCnf looks at what holds of each answer whatever the clauses are.
func checkCnf(t *testing.T, b impl.Bank, roots, shared []int, c impl.Cnf) {
	t.Helper()
	reached := impl.Reached(b, append(slices.Clone(roots), shared...))
	for id, x := range b.Terms {
		_, isReached := slices.BinarySearch(reached, id)
		if (c.Lits[id] != 0) != (isReached && x.Sort == "Bool") || isReached && len(c.Bits[id]) != wordWidth(x.Sort) || !isReached && len(c.Bits[id]) > 0 {
			t.Fatalf("term %d of %s: literal %d, word %v", id, shortBank(b), c.Lits[id], c.Bits[id])
		}
	}
	if c.Vars > impl.MaxVars || len(c.Clauses) > impl.MaxClauses || c.Roots+len(roots) != len(c.Clauses) || !slices.Equal(c.Clauses[0], []int{1}) {
		t.Fatalf("%s: %s", shortBank(b), shortCnf(c))
	}
	for i, root := range roots {
		if !slices.Equal(c.Clauses[c.Roots+i], []int{c.Lits[root]}) {
			t.Fatalf("%s: root %d has the clause %v", shortBank(b), root, c.Clauses[c.Roots+i])
		}
	}
	for _, list := range slices.Concat(c.Clauses, c.Bits) {
		for _, lit := range list {
			if lit == 0 || max(lit, -lit) > c.Vars {
				t.Fatalf("%s: %d is no literal", shortBank(b), lit)
			}
		}
	}
}
