package tests

import (
	"math/rand"
	"slices"
	"strconv"
	"testing"

	"loop.example/g00007/impl"
)

// An assignment gives a variable (by its number) 1 where it is true, -1 where it is false, 0 where it has no value.
type assignment []int

// truth is 1 where a literal is true, -1 where it is false.
func truth(a assignment, lit int) int {
	if lit < 0 {
		return -a[-lit]
	}
	return a[lit]
}

// set makes literals true or false.
func set(a assignment, lit, value int) {
	if lit < 0 {
		a[-lit] = -value
	} else {
		a[lit] = value
	}
}

func setWord(a assignment, word []int, digits uint64) {
	for i, lit := range word {
		set(a, lit, 2*int(digits>>i&1)-1)
	}
}

// wordIn is what the literals of a word say; all have values.
func wordIn(t *testing.T, a assignment, word []int) uint64 {
	t.Helper()
	digits := uint64(0)
	for i, lit := range word {
		switch truth(a, lit) {
		case 1:
			digits |= 1 << i
		case 0:
			t.Fatalf("%d has no value", lit)
		}
	}
	return digits
}

// propagate makes true what is the last literal of a clause that may be, again and again; it is false where a clause is false.
func propagate(clauses [][]int, a assignment) bool {
	for isMore := true; isMore; {
		isMore = false
		for _, clause := range clauses {
			free, last := 0, 0
			for _, lit := range clause {
				switch truth(a, lit) {
				case 1:
					free = 2
				case 0:
					free++
					last = lit
				}
			}
			if free == 0 {
				return false
			}
			if free == 1 {
				set(a, last, 1)
				isMore = true
			}
		}
	}
	return true
}

// isWhole is whether each variable has a value.
func isWhole(a assignment) bool {
	return !slices.Contains(a[1:], 0)
}

// ownLits are the literals that are variables of their own terms: what a model says, and no clause.
func ownLits(c impl.Cnf, b impl.Bank) []int {
	var own []int
	for id, x := range b.Terms {
		isFree := x.Op == impl.OpApp || x.Op == impl.OpSelect || x.Op == impl.OpLe || x.Op == impl.OpLt ||
			x.Op == impl.OpEq && b.Terms[x.Kids[0]].Sort != "Bool" && wordWidth(b.Terms[x.Kids[0]].Sort) == 0
		if isFree && c.Lits[id] != 0 {
			own = append(own, c.Lits[id])
		}
		if isFree {
			own = append(own, c.Bits[id]...)
		}
	}
	return own
}

// assignments are all that say something of the variables that no clause tells; the others have no value.
func assignments(c impl.Cnf, b impl.Bank) []assignment {
	own := ownLits(c, b)
	var all []assignment
	for digits := range 1 << len(own) {
		a := make(assignment, c.Vars+1)
		setWord(a, own, uint64(digits))
		all = append(all, a)
	}
	return all
}

// wordTerm is an operation of bits on terms 0 and 1 (and for the words that it gives, of sort), by its width.
func wordTerm(op, w int, kids ...int) (x impl.Term, isBool bool) {
	if op == impl.OpBvNot || op == impl.OpBvNeg {
		kids = kids[:1]
	}
	if op == impl.OpEq || op >= impl.OpBvUlt && op <= impl.OpBvSle {
		return term(op, "Bool", kids...), true
	}
	return term(op, bitsOf(w), kids...), false
}

// For each operation of bits and all pairs of words of up to 6 digits: that it gives what BitsOp gives is sat, that it gives
// anything else is unsat. Words whose literals have values leave the clauses nothing to choose.
func TestStage10BitsOp(t *testing.T) {
	r := rand.New(rand.NewSource(101))
	for w := 1; w <= 6; w++ {
		for _, op := range bitsOps() {
			x, isBool := wordTerm(op, w, 0, 1)
			b := bankWith(t, []string{bitsOf(w), bitsOf(w), bitsOf(w), "Bool"}, x)
			other := 2
			if isBool {
				other = 3
			}
			b.Terms = append(b.Terms, term(impl.OpEq, "Bool", 4, other))
			c := checkClauses(t, b, []int{5}, []int{4}[:oneOf(isBool)])
			for pair := range 1 << (2 * w) {
				first, second := uint64(pair)>>w, uint64(pair)&(1<<w-1)
				want := plainBits(op, w, first, second)
				a := make(assignment, c.Vars+1)
				setWord(a, c.Bits[0], first)
				setWord(a, c.Bits[1], second)
				propagate(c.Clauses[:c.Roots], a)
				word := c.Bits[4]
				if isBool {
					word = []int{c.Lits[4]}
				}
				if got := wordIn(t, a, word); got != want || want != impl.BitsOp(op, w, first, second) {
					t.Fatalf("operation %d of %d digits on %d and %d: %d, want %d", op, w, first, second, got, want)
				}
				all := c.Bits[2]
				if isBool {
					all = []int{c.Lits[3]}
				}
				for _, told := range []uint64{want, want ^ 1<<r.Intn(len(all)), uint64(r.Intn(1 << len(all)))} {
					full := slices.Clone(a)
					setWord(full, all, told)
					if isSat := propagate(c.Clauses, full) && isWhole(full); isSat != (told == want) {
						t.Fatalf("operation %d of %d digits on %d and %d is %d: sat %v", op, w, first, second, told, isSat)
					}
				}
			}
		}
	}
}

func oneOf(so bool) int {
	if so {
		return 1
	}
	return 0
}

// Where the words are known, all is: no variable and no clause is made, and the word is BitsOp's digits. All widths.
func TestStage10KnownWords(t *testing.T) {
	r := rand.New(rand.NewSource(102))
	for w := 1; w <= impl.MaxWidth; w++ {
		mask := uint64(1)<<(w-1)<<1 - 1
		for _, op := range bitsOps() {
			for range 6 {
				first, second := r.Uint64()&mask, r.Uint64()>>r.Intn(64)&mask
				switch r.Intn(6) {
				case 0:
					second = 0
				case 1:
					second = first
				case 2:
					first, second = mask, uint64(r.Intn(2*w))&mask
				}
				if first == second {
					second ^= 1 // two terms of a bank are not the same
				}
				h := heapOn(impl.NewBank())
				one := h.add(impl.Term{Op: impl.OpBits, Sort: bitsOf(w), Text: wordText(w, first)[2:]})
				two := h.add(impl.Term{Op: impl.OpBits, Sort: bitsOf(w), Text: wordText(w, second)[2:]})
				x, isBool := wordTerm(op, w, one, two)
				want := plainBits(op, w, first, second)
				id := h.add(x)
				root := id
				if !isBool {
					root = h.op(impl.OpEq, "Bool", id, h.add(impl.Term{Op: impl.OpBits, Sort: bitsOf(w), Text: wordText(w, want)[2:]}))
				}
				c := checkClauses(t, h.bank, []int{root}, nil)
				word := c.Bits[id]
				if isBool {
					word = []int{c.Lits[id]}
				} else if c.Lits[root] != litT {
					t.Fatalf("operation %d of %d digits on %d and %d is not %d", op, w, first, second, want)
				}
				if got := wordIn(t, assignment{0, 1}, word); c.Vars != 1 || got != want {
					t.Fatalf("operation %d of %d digits on %d and %d: %d, want %d; %d variables", op, w, first, second, got, want, c.Vars)
				}
			}
		}
	}
}

// Wide words, at drawn values.
func TestStage10WideWords(t *testing.T) {
	r := rand.New(rand.NewSource(106))
	for _, w := range []int{7, 8, 9, 16, 17, 32, 33, 63, 64} {
		mask := uint64(1)<<(w-1)<<1 - 1
		for _, op := range bitsOps() {
			x, isBool := wordTerm(op, w, 0, 1)
			b := bankWith(t, []string{bitsOf(w), bitsOf(w)}, x)
			shared := []int{2}
			if !isBool {
				b.Terms = append(b.Terms, term(impl.OpEq, "Bool", 2, 0))
				shared = []int{3}
			}
			c := checkClauses(t, b, nil, shared)
			for _, second := range []uint64{r.Uint64() & mask, uint64(r.Intn(w+2)) & mask} {
				first := r.Uint64() & mask
				a := make(assignment, c.Vars+1)
				setWord(a, c.Bits[0], first)
				setWord(a, c.Bits[1], second)
				isFine := propagate(c.Clauses, a)
				word := c.Bits[2]
				if isBool {
					word = []int{c.Lits[2]}
				}
				if got, want := wordIn(t, a, word), plainBits(op, w, first, second); !isFine || got != want || !isWhole(a) {
					t.Fatalf("operation %d of %d digits on %d and %d: %d, want %d", op, w, first, second, got, want)
				}
			}
		}
	}
}

// One term twice, and a known word on either side: each word of the other gives what BitsOp gives.
func TestStage10HalfKnownWords(t *testing.T) {
	for w := 1; w <= 4; w++ {
		for _, op := range bitsOps() {
			for known := range 1 << w {
				digits := impl.Term{Op: impl.OpBits, Sort: bitsOf(w), Text: wordText(w, uint64(known))[2:]}
				for _, kids := range [][]int{{0, 0}, {0, 2}, {2, 0}} {
					x, isBool := wordTerm(op, w, kids...)
					b := bankWith(t, []string{bitsOf(w), bitsOf(w)}, digits, x)
					shared := []int{3}
					if !isBool {
						b.Terms = append(b.Terms, term(impl.OpEq, "Bool", 3, 1))
						shared = []int{4}
					}
					c := checkClauses(t, b, nil, shared)
					for free := range uint64(1) << w {
						a := make(assignment, c.Vars+1)
						a[1] = 1
						setWord(a, c.Bits[0], free)
						setWord(a, c.Bits[1], free)
						values := []uint64{free, free, uint64(known)}
						isFine := propagate(c.Clauses, a)
						word := c.Bits[3]
						if isBool {
							word = []int{c.Lits[3]}
						}
						if got, want := wordIn(t, a, word), plainBits(op, w, values[kids[0]], values[kids[len(kids)-1]]); !isFine || got != want {
							t.Fatalf("operation %d of %d digits on %d and %d: %d, want %d", op, w, values[kids[0]], values[kids[1]], got, want)
						}
					}
				}
			}
		}
	}
}

// A model is a way to give the variables values: each term's literals say what Eval says of it.
func checkMeantClauses(t *testing.T, b impl.Bank, roots, shared []int, c impl.Cnf, m impl.Model) bool {
	t.Helper()
	values := impl.Eval(b, m)
	if len(values) != len(b.Terms) {
		return false
	}
	a := make(assignment, c.Vars+1)
	digits := func(id int) uint64 {
		n, err := strconv.ParseUint(values[id][2:], 2, 64)
		if err != nil {
			t.Fatal(err)
		}
		return n
	}
	for _, lit := range ownLits(c, b) {
		set(a, lit, -1)
	}
	for id, x := range b.Terms {
		isCall := x.Op == impl.OpApp || x.Op == impl.OpSelect
		switch {
		case isCall && len(c.Bits[id]) > 0:
			setWord(a, c.Bits[id], digits(id))
		case c.Lits[id] != 0 && (isCall || x.Op == impl.OpLe || x.Op == impl.OpLt || x.Op == impl.OpEq && b.Terms[x.Kids[0]].Sort != "Bool" && wordWidth(b.Terms[x.Kids[0]].Sort) == 0):
			set(a, c.Lits[id], 1-2*oneOf(values[id] != "true"))
		}
	}
	if !propagate(c.Clauses[:c.Roots], a) || !isWhole(a) {
		t.Fatalf("%s: the clauses do not tell all", shortBank(b))
	}
	for id := range b.Terms {
		if lit := c.Lits[id]; lit != 0 && (truth(a, lit) == 1) != (values[id] == "true") {
			t.Fatalf("%s: term %d is %s", shortBank(b), id, values[id])
		}
		if word := c.Bits[id]; len(word) > 0 && wordIn(t, a, word) != digits(id) {
			t.Fatalf("%s: term %d is %s", shortBank(b), id, values[id])
		}
	}
	if propagate(c.Clauses, a) != impl.Holds(b, m, roots) {
		t.Fatalf("%s: roots %v hold: %v", shortBank(b), roots, impl.Holds(b, m, roots))
	}
	return true
}

// Drawn banks of Bools and words, in all of their models that are drawn.
func TestStage10DrawnWords(t *testing.T) {
	r := rand.New(rand.NewSource(103))
	meant, gates := 0, 0
	for range 300 {
		b := drawWords(r, 5+r.Intn(30))
		bools := boolTerms(b)
		cut := r.Intn(len(bools))
		roots, shared := bools[cut:], bools[:r.Intn(cut+1)]
		r.Shuffle(len(roots), func(i, j int) { roots[i], roots[j] = roots[j], roots[i] })
		c := checkClauses(t, b, roots, shared)
		if !c.Ok {
			t.Fatalf("%s: not Ok", shortBank(b))
		}
		gates += len(c.Clauses)
		for range 4 {
			meant += oneOf(checkMeantClauses(t, b, roots, shared, c, drawModel(r, b)))
		}
	}
	if meant < 1000 || gates < 10000 {
		t.Errorf("%d models, %d clauses", meant, gates)
	}
}

// drawWords draws a bank of Bools and words of a few widths, by every operation that has literals.
func drawWords(r *rand.Rand, steps int) impl.Bank {
	sorts := []string{"Bool", "Int", "U", bitsOf(1), bitsOf(2), bitsOf(3), bitsOf(5), arrayOf("U", bitsOf(3))}
	h, of := drawnFrom(r, sorts, impl.Fun{Name: "f", Args: []string{"U"}, Sort: bitsOf(3)}, impl.Fun{Name: "g", Args: []string{bitsOf(2), bitsOf(5)}, Sort: "Bool"}, impl.Fun{Name: "h", Args: []string{bitsOf(1)}, Sort: "U"})
	for range steps {
		word := sorts[3+r.Intn(4)]
		w := wordWidth(word)
		switch r.Intn(12) {
		case 0:
			h.op(impl.OpAnd+r.Intn(2), "Bool", []int{of("Bool"), of("Bool"), of("Bool"), of("Bool")}[:2+r.Intn(3)]...)
		case 1:
			h.op(impl.OpXor+r.Intn(2), "Bool", of("Bool"), of("Bool"))
		case 2:
			h.op(impl.OpNot, "Bool", of("Bool"))
			h.op(impl.OpIte, "Bool", of("Bool"), of("Bool"), of("Bool"))
		case 3:
			sort := sorts[r.Intn(len(sorts))]
			h.op(impl.OpEq, "Bool", of(sort), of(sort))
		case 4:
			h.op(impl.OpLe+r.Intn(2), "Bool", of("Int"), of("Int"))
		case 5:
			h.op(impl.OpBvUlt+r.Intn(4), "Bool", of(word), of(word))
		case 6:
			h.op(impl.OpBvNot+r.Intn(2), word, of(word))
			h.add(impl.Term{Op: impl.OpBits, Sort: word, Text: wordText(w, r.Uint64()%(1<<w))[2:]})
		case 7, 8:
			h.op(impl.OpBvAnd+r.Intn(11), word, of(word), of(word))
		case 9:
			h.op(impl.OpConcat, bitsOf(5), of(bitsOf(2)), of(bitsOf(3)))
			h.op(impl.OpConcat, bitsOf(3), of(bitsOf(2)), of(bitsOf(1)))
		case 10:
			low := r.Intn(3)
			h.add(impl.Term{Op: impl.OpExtract, Sort: bitsOf(3), A: low + 2, B: low, Kids: []int{of(bitsOf(5))}})
			h.add(impl.Term{Op: impl.OpZext + r.Intn(2), Sort: bitsOf(5), A: 3, Kids: []int{of(bitsOf(2))}})
		case 11:
			h.op(impl.OpSelect, bitsOf(3), of(sorts[7]), of("U"))
			h.add(impl.Term{Op: impl.OpApp, Sort: bitsOf(3), Text: "f", Kids: []int{of("U")}})
			h.add(impl.Term{Op: impl.OpApp, Sort: "Bool", Text: "g", Kids: []int{of(bitsOf(2)), of(bitsOf(5))}})
			h.add(impl.Term{Op: impl.OpApp, Sort: "U", Text: "h", Kids: []int{of(bitsOf(1))}})
		}
	}
	return h.bank
}

// What is lowered has clauses; a drawn model of the lowered bank is a way to give them values, whether its roots hold or not.
func TestStage10DrawnLowered(t *testing.T) {
	r := rand.New(rand.NewSource(104))
	meant, told := 0, 0
	for range 150 {
		b := drawTold(r, 10+r.Intn(40))
		bools := boolTerms(b)
		roots := bools[max(0, len(bools)-1-r.Intn(4)):]
		l := impl.Lower(b, roots)
		if !l.Ok {
			continue
		}
		all := slices.Clone(l.Roots)
		for _, root := range roots {
			all = append(all, l.To[root])
		}
		isGe := func(id int) bool { return l.Bank.Terms[id].Op == impl.OpGe || l.Bank.Terms[id].Op == impl.OpGt }
		c := checkClauses(t, l.Bank, all, l.Shared)
		if hasGe := slices.ContainsFunc(impl.Reached(l.Bank, append(slices.Clone(all), l.Shared...)), isGe); c.Ok == hasGe {
			t.Fatalf("%s: %v", shortBank(l.Bank), c.Ok)
		}
		if !c.Ok {
			continue
		}
		told++
		for range 3 {
			meant += oneOf(checkMeantClauses(t, l.Bank, all, l.Shared, c, drawModel(r, l.Bank)))
		}
	}
	if meant < 60 || told < 30 {
		t.Errorf("%d models of %d banks", meant, told)
	}
}

// Drawn scripts, simplified and lowered ahead, as they come to the clauses.
func TestStage10DrawnScripts(t *testing.T) {
	r := rand.New(rand.NewSource(105))
	told := 0
	for range 250 {
		read := impl.ParseScript((&scriptDraw{r: r}).script(12))
		var roots []int
		for _, command := range read.Script.Commands {
			for _, id := range command.Ids {
				if read.Script.Bank.Terms[id].Sort == "Bool" {
					roots = append(roots, id)
				}
			}
		}
		checkClauses(t, read.Script.Bank, roots, nil)
		s := impl.Simplify(read.Script.Bank)
		if !s.Ok {
			continue
		}
		for i := range roots {
			roots[i] = s.To[roots[i]]
		}
		if l := impl.Lower(s.Bank, roots); l.Ok {
			all := slices.Clone(l.Roots)
			for _, root := range roots {
				all = append(all, l.To[root])
			}
			told += oneOf(checkClauses(t, l.Bank, all, l.Shared).Ok && len(all) > 0)
		}
	}
	if told < 50 {
		t.Errorf("%d scripts", told)
	}
}
