package tests

import (
	"math/big"
	"slices"
	"strings"
	"testing"

	"loop.example/g00007/impl"
)

// The signatures, the types and the limits that the document gives: a change of one is no longer built.
var (
	_ func(int, []bool, []impl.LinRow) []impl.LinRow         = impl.Tighten
	_ func(int, []bool, []impl.LinRow, int) impl.Whole       = impl.SolveWhole
	_ func(int, []bool, []impl.LinRow, []impl.TreeNode) bool = impl.CheckTree
	_                                                        = struct {
		Col  int
		At   string
		Mult []string
	}(impl.TreeNode{})
	_ = struct {
		Status int
		Vals   []string
		Tree   []impl.TreeNode
	}(impl.Whole{})
	_ = [1]int{}[impl.MaxNodes-150] + [1]int{}[impl.WholeNone] + [1]int{}[impl.WholeYes-1] + [1]int{}[impl.WholeTired-2] + [1]int{}[impl.WholeBad-3]
)

func digitsOf(s string) int {
	return len(strings.TrimPrefix(s, "-"))
}

// plainTight is Tighten, written a second time; it is for good rows.
func plainTight(t *testing.T, whole []bool, rows []impl.LinRow) []impl.LinRow {
	t.Helper()
	tight := copiedRows(rows)
	for i, row := range rows {
		common, isWhole := new(big.Int), true
		for col, coef := range row.Coefs {
			if coef != "0" {
				isWhole = isWhole && whole[col]
				common.GCD(nil, nil, common, new(big.Int).Abs(bigOf(t, coef)))
			}
		}
		if !isWhole || common.Sign() == 0 {
			continue
		}
		for col, coef := range row.Coefs {
			tight[i].Coefs[col] = new(big.Int).Quo(bigOf(t, coef), common).String()
		}
		bound, rest := new(big.Int).DivMod(bigOf(t, row.Bound), common, new(big.Int))
		if row.Strict && rest.Sign() == 0 {
			bound.Sub(bound, big.NewInt(1))
		}
		tight[i].Bound, tight[i].Strict = bound.String(), false
	}
	return tight
}

func areFlags(cols int, whole []bool, rows []impl.LinRow) bool {
	return arePlainRows(cols, rows) && len(whole) == cols
}

// A linAsker answers what is asked of rows over the rationals.
type linAsker func(t *testing.T, cols int, rows []impl.LinRow) linAnswer

// builtAnswer is layer 12's own, for rows that are too many for its second reading.
func builtAnswer(t *testing.T, cols int, rows []impl.LinRow) linAnswer {
	return linAnswer{impl.Feasible(cols, rows), impl.Infeasible(cols, rows), impl.Farkas(cols, rows)}
}

// A plainTree goes through the nodes of SolveWhole, written a second time.
type plainTree struct {
	cols  int
	whole []bool
	nodes int
	ask   linAsker
	tree  []impl.TreeNode
}

func (p *plainTree) meet(t *testing.T, rows []impl.LinRow) impl.Whole {
	t.Helper()
	if len(p.tree) == p.nodes || len(rows) > 50 || slices.ContainsFunc(rows, func(row impl.LinRow) bool { return digitsOf(row.Bound) > 40 }) {
		return impl.Whole{Status: impl.WholeTired}
	}
	a := p.ask(t, p.cols, rows)
	if len(a.farkas) > 0 {
		p.tree = append(p.tree, impl.TreeNode{Col: -1, Mult: a.farkas})
		return impl.Whole{}
	}
	if !a.point.Ok {
		return impl.Whole{Status: impl.WholeTired}
	}
	for col, val := range a.point.Vals {
		if x := ratOf(t, val); p.whole[col] && !x.IsInt() {
			at := new(big.Int).Div(x.Num(), x.Denom())
			p.tree = append(p.tree, impl.TreeNode{Col: col, At: at.String()})
			for _, row := range plainChildren(t, p.cols, col, at.String()) {
				if below := p.meet(t, append(slices.Clone(rows), row)); below.Status != impl.WholeNone {
					return below
				}
			}
			return impl.Whole{}
		}
	}
	return impl.Whole{Status: impl.WholeYes, Vals: a.point.Vals}
}

func plainChildren(t *testing.T, cols, col int, at string) [2]impl.LinRow {
	t.Helper()
	next := new(big.Int).Add(bigOf(t, at), big.NewInt(1))
	return [2]impl.LinRow{
		atMost(at, aheadOf(cols, map[int]string{col: "1"})...), atMost(next.Neg(next).String(), aheadOf(cols, map[int]string{col: "-1"})...),
	}
}

func hasLongBranch(tree []impl.TreeNode) bool {
	return slices.ContainsFunc(tree, func(node impl.TreeNode) bool { return digitsOf(node.At) > 39 })
}

// plainWhole is SolveWhole. A tree with an At of RowDigits digits is none that CheckTree takes: it is not told.
func plainWhole(t *testing.T, cols int, whole []bool, rows []impl.LinRow, nodes int, ask linAsker) impl.Whole {
	t.Helper()
	if !areFlags(cols, whole, rows) || nodes < 1 || nodes > 150 {
		return impl.Whole{Status: impl.WholeBad}
	}
	p := &plainTree{cols: cols, whole: whole, nodes: nodes, ask: ask}
	w := p.meet(t, plainTight(t, whole, rows))
	if w.Status == impl.WholeNone {
		w.Tree = p.tree
		if hasLongBranch(p.tree) {
			w = impl.Whole{Status: impl.WholeTired}
		}
	}
	return w
}

// plainTakes is CheckTree, written a second time.
func plainTakes(t *testing.T, cols int, whole []bool, rows []impl.LinRow, tree []impl.TreeNode) bool {
	t.Helper()
	if !areFlags(cols, whole, rows) {
		return false
	}
	// The rows of all nodes that are still to come, the next one last.
	waiting := [][]impl.LinRow{plainTight(t, whole, rows)}
	for _, node := range tree {
		if len(waiting) == 0 {
			return false
		}
		rows := waiting[len(waiting)-1]
		waiting = waiting[:len(waiting)-1]
		if node.Col == -1 {
			if node.At != "" || !plainRefutes(t, cols, rows, node.Mult) {
				return false
			}
			continue
		}
		if node.Col < 0 || node.Col >= cols || !whole[node.Col] || !impl.IsInt(node.At) || digitsOf(node.At) > 39 || len(node.Mult) > 0 || len(rows) >= 50 {
			return false
		}
		children := plainChildren(t, cols, node.Col, node.At)
		for _, row := range []impl.LinRow{children[1], children[0]} {
			waiting = append(waiting, append(slices.Clone(rows), row))
		}
	}
	return len(waiting) == 0
}

func plainRefutes(t *testing.T, cols int, rows []impl.LinRow, mult []string) bool {
	t.Helper()
	if len(mult) != len(rows) {
		return false
	}
	sum := make([]*big.Int, cols+1)
	for i := range sum {
		sum[i] = new(big.Int)
	}
	isStrict := false
	for i, row := range rows {
		if !impl.IsInt(mult[i]) || mult[i][0] == '-' {
			return false
		}
		if mult[i] == "0" {
			continue
		}
		isStrict = isStrict || row.Strict
		for k, text := range append(slices.Clone(row.Coefs), row.Bound) {
			sum[k].Add(sum[k], new(big.Int).Mul(bigOf(t, text), bigOf(t, mult[i])))
		}
	}
	for _, column := range sum[:cols] {
		if column.Sign() != 0 {
			return false
		}
	}
	return sum[cols].Sign() < 0 || sum[cols].Sign() == 0 && isStrict
}

func copiedTree(tree []impl.TreeNode) []impl.TreeNode {
	out := slices.Clone(tree)
	for i := range out {
		out[i].Mult = slices.Clone(out[i].Mult)
	}
	return out
}

func sameTree(a, b []impl.TreeNode) bool {
	return slices.EqualFunc(a, b, func(x, y impl.TreeNode) bool {
		return x.Col == y.Col && x.At == y.At && slices.Equal(x.Mult, y.Mult)
	})
}

func sameWhole(a, b impl.Whole) bool {
	return a.Status == b.Status && slices.Equal(a.Vals, b.Vals) && sameTree(a.Tree, b.Tree)
}

func overwriteTexts(lists ...[]string) {
	for _, list := range lists {
		for i := range list {
			list[i] = "overwritten"
		}
	}
}

// checkTight asks twice, writes into the answers, and looks whether what was handed in is as before.
func checkTight(t *testing.T, cols int, whole []bool, rows []impl.LinRow) []impl.LinRow {
	t.Helper()
	var want []impl.LinRow
	if areFlags(cols, whole, rows) {
		want = plainTight(t, whole, rows)
	}
	keptWhole, kept := slices.Clone(whole), copiedRows(rows)
	answers := [2][]impl.LinRow{impl.Tighten(cols, whole, rows), impl.Tighten(cols, whole, rows)}
	for _, got := range answers {
		if !sameRows(got, want) {
			t.Fatalf("%d %v %v: Tighten %v, want %v", cols, whole, rows, got, want)
		}
		for i := range got {
			overwriteTexts(got[i].Coefs)
			if i > 0 && !slices.Equal(got[i-1].Coefs, slices.Repeat([]string{"overwritten"}, cols)) {
				t.Fatal("rows share memory")
			}
		}
		if !slices.Equal(whole, keptWhole) || !sameRows(rows, kept) {
			t.Fatal("what was handed in is changed, or an answer shares memory with it")
		}
		clear(got)
	}
	return want
}

// checkSolved holds SolveWhole against what is known to be right.
func checkSolved(t *testing.T, cols int, whole []bool, rows []impl.LinRow, nodes int, want impl.Whole) {
	t.Helper()
	keptWhole, kept := slices.Clone(whole), copiedRows(rows)
	answers := [2]impl.Whole{impl.SolveWhole(cols, whole, rows, nodes), impl.SolveWhole(cols, whole, rows, nodes)}
	for _, got := range answers {
		if !sameWhole(got, want) {
			t.Fatalf("%d %v %v with %d nodes: %v, want %v", cols, whole, rows, nodes, got, want)
		}
		overwriteTexts(got.Vals)
		for i := range got.Tree {
			if !slices.Equal(got.Tree[i].Mult, want.Tree[i].Mult) {
				t.Fatal("nodes share memory")
			}
			overwriteTexts(got.Tree[i].Mult)
		}
		clear(got.Tree)
		if !slices.Equal(whole, keptWhole) || !sameRows(rows, kept) {
			t.Fatal("what was handed in is changed, or an answer shares memory with it")
		}
	}
	if want.Status == impl.WholeNone {
		checkTaken(t, cols, whole, rows, want.Tree)
	}
}

// checkWhole holds SolveWhole against the second reading of the chapter, and gives what that says.
func checkWhole(t *testing.T, cols int, whole []bool, rows []impl.LinRow, nodes int, ask linAsker) impl.Whole {
	t.Helper()
	want := plainWhole(t, cols, whole, rows, nodes, ask)
	checkSolved(t, cols, whole, rows, nodes, want)
	return want
}

// checkTree holds CheckTree against the second reading of the chapter.
func checkTree(t *testing.T, cols int, whole []bool, rows []impl.LinRow, tree []impl.TreeNode) bool {
	t.Helper()
	keptWhole, kept, keptTree := slices.Clone(whole), copiedRows(rows), copiedTree(tree)
	want := plainTakes(t, cols, whole, rows, tree)
	for range 2 {
		if impl.CheckTree(cols, whole, rows, tree) != want {
			t.Fatalf("%d %v %v: CheckTree of %v is not %t", cols, whole, rows, tree, want)
		}
	}
	if !slices.Equal(whole, keptWhole) || !sameRows(rows, kept) || !sameTree(tree, keptTree) {
		t.Fatal("what was handed in is changed")
	}
	return want
}

// checkTaken is for a tree that is right, which it is no more with a node less or more.
func checkTaken(t *testing.T, cols int, whole []bool, rows []impl.LinRow, tree []impl.TreeNode) {
	t.Helper()
	if !checkTree(t, cols, whole, rows, tree) {
		t.Fatalf("%d %v %v: not taken: %v", cols, whole, rows, tree)
	}
	last := len(tree) - 1
	for _, wrong := range [][]impl.TreeNode{tree[:last], tree[1:], append(slices.Clone(tree), tree[last]), append(slices.Clone(tree), tree[0]), nil} {
		if checkTree(t, cols, whole, rows, wrong) {
			t.Fatalf("%d %v %v: taken: %v", cols, whole, rows, wrong)
		}
	}
}
