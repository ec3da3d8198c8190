package tests

import (
	"math"
	"math/rand"
	"slices"
	"strconv"
	"strings"
	"testing"

	"loop.example/g00007/impl"
)

// checkText is for a proof that is written so, and read from it.
func checkText(t *testing.T, want string, proof ...impl.Lemma) {
	t.Helper()
	if got := impl.ProofText(proof); got != want {
		t.Errorf("%v is written %q, want %q", proof, short(got), short(want))
	}
	checkWritten(t, proof)
}

func branchAt(col int, at string) impl.TreeNode {
	return impl.TreeNode{Col: col, At: at}
}

// Each kind, with and without each of its parts.
func TestStage15ProofText(t *testing.T) {
	checkText(t, "")
	checkText(t, "(equal () () ())\n", equal())
	checkText(t, "(linear () () ())\n", linear(nil))
	checkText(t, "(chain () () ())\n", chain(nil))
	checkText(t, "(equal (1 (- 2) 30) () ())\n", equal(1, -2, 30))
	checkText(t, "(chain ((- 4) 4 4 (- 1)) (0 7 7 123) ())\n", chain([]int{-4, 4, 4, -1}, 0, 7, 7, 123))
	checkText(t, "(chain (9223372036854775807 (- 9223372036854775807) (- 9223372036854775808)) (9223372036854775807) ())\n", chain([]int{math.MaxInt, -math.MaxInt, math.MinInt}, math.MaxInt))
	checkText(t, "(linear () () ((leaf)))\n", linear(nil, leafWith()))
	checkText(t, "(linear ((- 2)) () ((branch 0 (- 1)) (leaf 0 1 (- 2)) (leaf 10)))\n", linear([]int{-2}, branchAt(0, "-1"), leafWith("0", "1", "-2"), leafWith("10")))
	checkText(t, "(linear () () ((branch 9223372036854775807 0) (branch 12 340)))\n", linear(nil, branchAt(math.MaxInt, "0"), branchAt(12, "340")))
	checkText(t, "(linear () () ((leaf "+nines(impl.IntDigits)+" (- "+nines(impl.IntDigits)+")) (branch 1 (- "+nines(impl.IntDigits)+"))))\n", linear(nil, leafWith(nines(impl.IntDigits), "-"+nines(impl.IntDigits)), branchAt(1, "-"+nines(impl.IntDigits))))
	// a kind may have parts that no right lemma of it has
	checkText(t, "(equal () (5) ((leaf)))\n(chain (1) (0) ((branch 0 0)))\n(linear () (1 2) ())\n", impl.Lemma{Kind: impl.LemEqual, Chain: []int{5}, Tree: []impl.TreeNode{leafWith()}}, impl.Lemma{Kind: impl.LemChain, Lits: []int{1}, Chain: []int{0}, Tree: []impl.TreeNode{branchAt(0, "0")}}, impl.Lemma{Kind: impl.LemLinear, Chain: []int{1, 2}})
	checkText(t, "(chain () (1) ())\n(equal ((- 3)) () ())\n(chain () (1) ())\n", chain(nil, 1), equal(-3), chain(nil, 1))
}

// What has no text: alone, ahead of others, and behind them.
func TestStage15NoText(t *testing.T) {
	right := chain([]int{-2}, 0)
	wrong := []impl.Lemma{
		{}, {Kind: 4}, {Kind: -1}, {Kind: math.MaxInt}, {Kind: math.MinInt}, {Kind: 0, Lits: []int{1}}, equal(0), equal(1, 0), equal(0, 1), chain(nil, -1), chain(nil, 3, -1), chain(nil, math.MinInt), chain(nil, -1, 3),
		linear(nil, leafWith("")), linear(nil, leafWith("1", "x")), linear(nil, leafWith("01")), linear(nil, leafWith("-0")), linear(nil, leafWith("+1")), linear(nil, leafWith("1/2")), linear(nil, leafWith(" 1")), linear(nil, leafWith("1"+nines(impl.IntDigits))), linear(nil, leafWith("1"), leafWith("-")),
		linear(nil, impl.TreeNode{Col: -1, At: "0"}), linear(nil, impl.TreeNode{Col: -1, At: "0", Mult: []string{"1"}}), linear(nil, impl.TreeNode{Col: -2}), linear(nil, impl.TreeNode{Col: -2, Mult: []string{"1"}}), linear(nil, impl.TreeNode{Col: math.MinInt}), linear(nil, impl.TreeNode{Col: -2, At: "5"}), linear(nil, impl.TreeNode{Col: -1, At: " "}),
		linear(nil, branchAt(0, "")), linear(nil, branchAt(3, "")), linear(nil, branchAt(0, "x")), linear(nil, branchAt(0, "00")), linear(nil, branchAt(0, "-0")), linear(nil, branchAt(0, "1.0")), linear(nil, branchAt(0, "1/2")), linear(nil, branchAt(0, "1"+nines(impl.IntDigits))),
		linear(nil, impl.TreeNode{Col: 0, At: "1", Mult: []string{"1"}}), linear(nil, impl.TreeNode{Col: 0, At: "1", Mult: []string{""}}), linear(nil, impl.TreeNode{Col: 0, Mult: []string{"1"}}), linear(nil, impl.TreeNode{}),
	}
	for _, lemma := range wrong {
		for _, proof := range [][]impl.Lemma{{lemma}, {lemma, right}, {right, lemma}, {right, lemma, right}} {
			if text := checkWritten(t, proof); text != "" {
				t.Errorf("%v is written %q", proof, text)
			}
		}
	}
}

// paddedProof has a text of just so many bytes: a leaf's Mult fills it up.
func paddedProof(proof []impl.Lemma, size int) []impl.Lemma {
	size -= len(impl.ProofText(proof)) + len("(linear () () ((leaf)))\n")
	last := leafWith()
	for size > 0 {
		digits := min(size-1, impl.IntDigits)
		if size-1-digits == 1 {
			digits--
		}
		last.Mult = append(last.Mult, nines(digits))
		size -= digits + 1
	}
	return append(copiedProof(proof), linear(nil, last))
}

// A text of exactly TextMax bytes, and one more.
func TestStage15TextMax(t *testing.T) {
	many := []impl.Lemma{}
	for range 500 {
		many = append(many, chain([]int{-2, 3}, 4, 5))
	}
	for _, proof := range [][]impl.Lemma{nil, {equal(-2, 3)}, many} {
		for size := impl.TextMax - 3; size <= impl.TextMax+3; size++ {
			padded := paddedProof(proof, size)
			text := checkWritten(t, padded)
			if want := size <= impl.TextMax; want != (len(text) == size) || want != (text != "") {
				t.Errorf("a text of %d bytes is written with %d", size, len(text))
			}
			// one more line, however short, is too much
			if more := append(padded, chain(nil)); size > impl.TextMax-17 && impl.ProofText(more) != "" {
				t.Errorf("a text of %d bytes is written", size+17)
			}
		}
	}
	// far too much of everything
	for _, lemma := range []impl.Lemma{chain(slices.Repeat([]int{-1}, 100000)), chain(nil, slices.Repeat([]int{7}, 100000)...), linear(nil, slices.Repeat([]impl.TreeNode{leafWith("1")}, 100000)...), linear(nil, leafWith(slices.Repeat([]string{nines(2000)}, 1000)...))} {
		if text := impl.ProofText([]impl.Lemma{lemma}); text != "" {
			t.Errorf("a text of %d bytes is written", len(text))
		}
	}
	if text := impl.ProofText(slices.Repeat([]impl.Lemma{chain([]int{1}, 0)}, 100000)); text != "" {
		t.Errorf("a text of %d bytes is written", len(text))
	}
}

// More nodes than TreeMax may stand in a text that is not too long: that is a limit of reading trees, not of proofs.
func TestStage15ManyNodes(t *testing.T) {
	for _, n := range []int{impl.TreeMax - 10, impl.TreeMax - 5, impl.TreeMax - 4, impl.TreeMax, impl.TreeMax + 1, 9000, 9991} {
		proof := []impl.Lemma{chain(nil, slices.Repeat([]int{7}, n)...)}
		want := "(chain () (" + strings.TrimSuffix(strings.Repeat("7 ", n), " ") + ") ())\n"
		text := impl.ProofText(proof)
		if len(want) > impl.TextMax {
			want = ""
		}
		ok, read := impl.ReadProof(text)
		if text != want || ok != (want != "") || ok && !sameProof(read, proof) {
			t.Errorf("%d numbers: a text of %d bytes, read: %v", n, len(text), ok)
		}
	}
}

// mustNotRead is for texts that are not what ProofText writes.
func mustNotRead(t *testing.T, texts ...string) {
	t.Helper()
	for _, text := range texts {
		if ok, proof := impl.ReadProof(text); ok || len(proof) > 0 {
			t.Errorf("%q is read: %v", short(text), proof)
		}
	}
}

func TestStage15NotRead(t *testing.T) {
	right := "(chain (2 (- 3)) (7 0) ())\n"
	mustNotRead(t, "", "\n", " ", right[:len(right)-1], right+"\n", right+" ", " "+right, "\n"+right, right+")", right+"x", right+"("+right, right+";\n", ";a\n"+right, right+"\x00", strings.TrimSuffix(right, "\n")+" \n", strings.TrimSuffix(right, "\n")+"\r\n", strings.Repeat(right, 2)+"x\n", strings.TrimSuffix(right, "\n")+right)
	mustNotRead(t, "(chain  (2) (7) ())\n", "(chain (2)  (7) ())\n", "(chain (2) (7)  ())\n", "(chain (2) (7) () )\n", "( chain (2) (7) ())\n", "(chain ( 2) (7) ())\n", "(chain (2 ) (7) ())\n", "(chain (2  3) (7) ())\n", "(chain\t(2) (7) ())\n", "(chain(2) (7) ())\n", "(chain (2)(7) ())\n", "(chain (2) (7)())\n", "(chain (2)\n(7) ())\n")
	mustNotRead(t, "(chain (2) (7))\n", "(chain (2))\n", "(chain)\n", "()\n", "(chain (2) (7) () ())\n", "(chain () ())\n", "chain () () ()\n", "((chain) () () ())\n", "(chain 2 (7) ())\n", "(chain (2) 7 ())\n", "(chain (2) (7) x)\n", "((2) (7) ())\n", "((chain () () ()))\n", "(chain ((2)) () ())\n", "(chain () ((7)) ())\n", "(chain () () (()))\n")
	mustNotRead(t, "(foo () () ())\n", "(Chain () () ())\n", "(CHAIN () () ())\n", "(|chain| () () ())\n", "(\"chain\" () () ())\n", "(:chain () () ())\n", "(chains () () ())\n", "(chai () () ())\n", "( () () ())\n", "(leaf () () ())\n", "(3 () () ())\n", "(equa () () ())\n", "(linea () () ())\n")
	mustNotRead(t, "(equal (0) () ())\n", "(equal ((- 0)) () ())\n", "(equal (01) () ())\n", "(equal ((- 01)) () ())\n", "(equal (-1) () ())\n", "(equal (+1) () ())\n", "(equal ((+ 1)) () ())\n", "(equal ((-1)) () ())\n", "(equal ((- -1)) () ())\n", "(equal ((- (- 1))) () ())\n", "(equal ((-  1)) () ())\n", "(equal ((- 1 )) () ())\n", "(equal (( - 1)) () ())\n", "(equal ((- )) () ())\n", "(equal ((-)) () ())\n", "(equal (- 1) () ())\n", "(equal (1.0) () ())\n", "(equal (x) () ())\n", "(equal (#b1) () ())\n", "(equal (1_0) () ())\n", "(equal (0x1) () ())\n", "(equal (1e1) () ())\n")
	mustNotRead(t, "(equal (9223372036854775808) () ())\n", "(equal ((- 9223372036854775809)) () ())\n", "(equal (99999999999999999999999999) () ())\n", "(chain () (9223372036854775808) ())\n", "(chain () ((- 1)) ())\n", "(chain () (-1) ())\n", "(chain () (00) ())\n", "(chain () (+0) ())\n", "(chain () ((- 0)) ())\n")
	mustNotRead(t, "(linear () () (leaf))\n", "(linear () () ((leaf )))\n", "(linear () () ((leaf 1 )))\n", "(linear () () ((leaf  1)))\n", "(linear () () ((leaf1)))\n", "(linear () () ((leaf x)))\n", "(linear () () ((leaf 01)))\n", "(linear () () ((leaf -1)))\n", "(linear () () ((leaf (- 0))))\n", "(linear () () ((leaf (1))))\n", "(linear () () ((leaf 1/2)))\n", "(linear () () ((leaf "+"1"+nines(impl.IntDigits)+")))\n", "(linear () () ((Leaf)))\n", "(linear () () ((tree 1)))\n", "(linear () () (()))\n", "(linear () () (leaf 1))\n")
	mustNotRead(t, "(linear () () ((branch)))\n", "(linear () () ((branch 0)))\n", "(linear () () ((branch 0 1 2)))\n", "(linear () () ((branch 0 )))\n", "(linear () () ((branch (- 1) 0)))\n", "(linear () () ((branch -1 0)))\n", "(linear () () ((branch 00 0)))\n", "(linear () () ((branch 0 00)))\n", "(linear () () ((branch 0 -1)))\n", "(linear () () ((branch 0 (- 0))))\n", "(linear () () ((branch x 0)))\n", "(linear () () ((branch 0 x)))\n", "(linear () () ((branch 9223372036854775808 0)))\n", "(linear () () ((branch 0 ())))\n", "(linear () () ((branch 0 0)(leaf)))\n", "(linear () () ((branch 0 1"+nines(impl.IntDigits)+")))\n")
	mustNotRead(t, strings.Repeat("(", 30000), strings.Repeat("(chain ", 5000), strings.Repeat("(- ", 6000), "(equal ("+strings.Repeat("(- ", 300)+"1"+strings.Repeat(")", 300)+") () ())\n", strings.Repeat(right, 800), strings.Repeat("9", impl.TextMax), strings.Repeat(" ", impl.TextMax+1))
}

// treeReader reads a proof's trees, a second time.
type treeReader struct {
	nodes []impl.Node
}

func (r *treeReader) next() impl.Node {
	if len(r.nodes) == 0 {
		return impl.Node{}
	}
	node := r.nodes[0]
	r.nodes = r.nodes[1:]
	return node
}

func (r *treeReader) numeral() string {
	node := r.next()
	if node.Kind == impl.NodList {
		r.next()
		return "-" + r.next().Text
	}
	return node.Text
}

func (r *treeReader) number() int {
	n, _ := strconv.Atoi(r.numeral())
	return n
}

// plainProofRead takes any trees for lemmas, and then asks whether the text is theirs.
func plainProofRead(text string) (bool, []impl.Lemma) {
	r := &treeReader{impl.ReadTree(text).Nodes}
	var proof []impl.Lemma
	for len(r.nodes) > 0 {
		r.next()
		lemma := impl.Lemma{Kind: map[string]int{"equal": impl.LemEqual, "linear": impl.LemLinear, "chain": impl.LemChain}[r.next().Text]}
		for range r.next().Kids {
			lemma.Lits = append(lemma.Lits, r.number())
		}
		for range r.next().Kids {
			lemma.Chain = append(lemma.Chain, r.number())
		}
		for range r.next().Kids {
			node := impl.TreeNode{Col: -1}
			kids := r.next().Kids
			if r.next().Text == "branch" {
				node.Col = r.number()
				node.At = r.numeral()
			} else {
				for range kids - 1 {
					node.Mult = append(node.Mult, r.numeral())
				}
			}
			lemma.Tree = append(lemma.Tree, node)
		}
		proof = append(proof, lemma)
	}
	if text == "" || plainProofText(proof) != text {
		return false, nil
	}
	return true, proof
}

// drawLemma is a lemma that has a text, right or not.
func drawLemma(r *rand.Rand) impl.Lemma {
	lemma := impl.Lemma{Kind: 1 + r.Intn(3)}
	for range r.Intn(4) {
		lemma.Lits = append(lemma.Lits, (1+r.Intn(20))*(1-2*r.Intn(2)))
	}
	for range r.Intn(4) {
		lemma.Chain = append(lemma.Chain, r.Intn(40))
	}
	for range r.Intn(4) {
		node := leafWith()
		if r.Intn(2) == 0 {
			node = branchAt(r.Intn(12), strconv.Itoa(r.Intn(40)-20))
		} else {
			for range r.Intn(4) {
				node.Mult = append(node.Mult, strconv.Itoa(r.Intn(40)-20))
			}
		}
		lemma.Tree = append(lemma.Tree, node)
	}
	return lemma
}

// Drawn proofs are read from their texts; a text with some bytes changed is read just where it is that of another proof.
func TestStage15DrawnTexts(t *testing.T) {
	r := rand.New(rand.NewSource(157))
	met := map[bool]int{}
	const letters = "()- 0123456789equalinchbrf\n;|+."
	for range 400 {
		var proof []impl.Lemma
		for range 1 + r.Intn(3) {
			proof = append(proof, drawLemma(r))
		}
		text := checkWritten(t, proof)
		for range 40 {
			bent := []byte(text)
			for range 1 + r.Intn(2) {
				i := r.Intn(len(bent))
				switch r.Intn(4) {
				case 0:
					bent = slices.Delete(bent, i, i+1)
				case 1:
					bent = slices.Insert(bent, i, letters[r.Intn(len(letters))])
				case 2:
					bent[i] = letters[r.Intn(len(letters))]
				default:
					j := i + r.Intn(len(bent)-i)
					bent = slices.Concat(bent[:i], bent[j:])
				}
				if len(bent) == 0 {
					break
				}
			}
			want, wantProof := plainProofRead(string(bent))
			ok, read := impl.ReadProof(string(bent))
			if ok != want || !sameProof(read, wantProof) {
				t.Fatalf("%q is read %v, %v, want %v, %v", bent, ok, read, want, wantProof)
			}
			met[ok]++
		}
	}
	if met[true] < 500 || met[false] < 5000 {
		t.Errorf("read and not: %v", met)
	}
}

// A proof that is read owns its memory: it does not hang on the text, nor on another one that is read.
func TestStage15ReadTwice(t *testing.T) {
	text := impl.ProofText([]impl.Lemma{chain([]int{-2, 3}, 4, 5), linear([]int{1}, branchAt(0, "7"), leafWith("1", "2"))})
	_, one := impl.ReadProof(text)
	kept := copiedProof(one)
	_, other := impl.ReadProof(text)
	spoilFound(impl.Found{Trace: one})
	if !sameProof(other, kept) {
		t.Errorf("%v", other)
	}
}
