package tests

import (
	"math/rand"
	"slices"
	"strconv"
	"testing"

	"loop.example/g00007/impl"
)

func drawFlags(r *rand.Rand, cols int) []bool {
	whole := make([]bool, cols)
	often := r.Intn(4)
	for col := range whole {
		whole[col] = r.Intn(3) < often
	}
	return whole
}

// boxPoints calls look with all whole numbers of so many columns from -size to size.
func boxPoints(cols, size int, look func(at []int)) {
	at := slices.Repeat([]int{-size}, cols)
	for {
		look(at)
		col := 0
		for ; col < cols && at[col] == size; col++ {
			at[col] = -size
		}
		if col == cols {
			return
		}
		at[col]++
	}
}

// isMetInBox asks whether some numbers meet the rows, those of whole columns from -size to size.
func isMetInBox(t *testing.T, cols int, whole []bool, rows []impl.LinRow, size int) (isMet bool) {
	t.Helper()
	var held []int
	for col, isWhole := range whole {
		if isWhole {
			held = append(held, col)
		}
	}
	boxPoints(len(held), size, func(at []int) {
		if isMet {
			return
		}
		if len(held) == cols {
			isMet = impl.Meets(cols, rows, intTexts(at))
			return
		}
		fixed := slices.Clone(rows)
		for i, col := range held {
			n := strconv.Itoa(at[i])
			fixed = append(fixed, atMost(n, aheadOf(cols, map[int]string{col: "1"})...), atMost(impl.IntSub("0", n), aheadOf(cols, map[int]string{col: "-1"})...))
		}
		isMet = impl.Feasible(cols, fixed).Ok
	})
	return isMet
}

func intTexts(list []int) (texts []string) {
	for _, n := range list {
		texts = append(texts, strconv.Itoa(n))
	}
	return texts
}

// checkSolution: numbers of WholeYes meet the rows, and are whole where they must be.
func checkSolution(t *testing.T, cols int, whole []bool, rows []impl.LinRow, vals []string) {
	t.Helper()
	if !checkMeets(t, cols, rows, vals) {
		t.Fatalf("%d %v %v: not met by %v", cols, whole, rows, vals)
	}
	for col, val := range vals {
		if whole[col] && !impl.IsInt(val) {
			t.Fatalf("%d %v %v: %v", cols, whole, rows, vals)
		}
	}
}

// Numbers, whole where they must be, meet rows just where they meet what Tighten makes of them.
func TestStage13DrawnTighten(t *testing.T) {
	r := rand.New(rand.NewSource(131))
	var met [2]int
	for n := range 1500 {
		cols := r.Intn(4)
		whole := drawFlags(r, cols)
		rows := drawRows(r, cols, r.Intn(4), []int{2, 6, 12}[n%3], 4+r.Intn(7), nil)
		tight := checkTight(t, cols, whole, rows)
		if again := impl.Tighten(cols, whole, tight); !sameRows(again, tight) {
			t.Fatalf("%v is tightened to %v", tight, again)
		}
		boxPoints(cols, 3, func(at []int) {
			vals := intTexts(at)
			for col := range vals {
				if !whole[col] && r.Intn(2) == 0 {
					vals[col] = ratText(ratOf(t, impl.RatOf(strconv.Itoa(r.Intn(25)-12), strconv.Itoa(1+r.Intn(4)))))
				}
			}
			so := impl.Meets(cols, rows, vals)
			if impl.Meets(cols, tight, vals) != so {
				t.Fatalf("%v %v, tight %v: %v meet one of them alone", whole, rows, tight, vals)
			}
			met[oneOf(so)]++
		})
	}
	if min(met[0], met[1]) < 5000 {
		t.Errorf("not met and met: %v", met)
	}
}

// checkWholePromise is promise 12 for rows of few columns; it gives the status.
func checkWholePromise(t *testing.T, cols int, whole []bool, rows []impl.LinRow, nodes int, ask linAsker) int {
	t.Helper()
	w := checkWhole(t, cols, whole, rows, nodes, ask)
	switch w.Status {
	case impl.WholeYes:
		checkSolution(t, cols, whole, rows, w.Vals)
	case impl.WholeNone:
		if isMetInBox(t, cols, whole, rows, 4) {
			t.Fatalf("%d %v %v: they are met", cols, whole, rows)
		}
	}
	return w.Status
}

// Few rows of few columns, drawn: all answers are those of the second reading, and the promise holds.
func TestStage13DrawnFew(t *testing.T) {
	r := rand.New(rand.NewSource(132))
	var count [4]int
	branched := 0
	for n := range 4000 {
		cols := r.Intn(4)
		size := []int{3, 9, 20}[n%3]
		at := drawAt(r, cols, 4)
		if n%2 == 0 {
			at = nil
		}
		rows := drawRows(r, cols, r.Intn(6), size, 4+r.Intn(7), at)
		if n%4 == 0 {
			rows = thinRows(r, cols, size)
		}
		whole := drawFlags(r, cols)
		status := checkWholePromise(t, cols, whole, rows, 1+r.Intn(12), plainAnswer)
		count[status]++
		branched += oneOf(len(impl.SolveWhole(cols, whole, rows, 150).Tree) > 1)
	}
	if min(count[0], count[1], count[2]) < 20 || count[3] > 0 || branched < 20 {
		t.Errorf("status: %v, branched %d", count, branched)
	}
}

// narrowed says of the sum of a row that it is more than the Bound less so much.
func narrowed(row impl.LinRow, by string) impl.LinRow {
	back := impl.LinRow{Strict: row.Strict, Bound: impl.IntSub(by, row.Bound)}
	for _, coef := range row.Coefs {
		back.Coefs = append(back.Coefs, impl.IntSub("0", coef))
	}
	return back
}

// thinRows are equations and narrow strips: many are met by rational numbers alone.
func thinRows(r *rand.Rand, cols, size int) (rows []impl.LinRow) {
	for _, row := range drawRows(r, cols, 1+r.Intn(2), size, 8, nil) {
		row.Strict = false
		rows = append(rows, row, narrowed(row, strconv.Itoa(r.Intn(2)*r.Intn(3))))
	}
	for col := range cols {
		for _, sign := range []string{"1", "-1"} {
			if r.Intn(3) > 0 {
				rows = append(rows, atMost(strconv.Itoa(r.Intn(6)), aheadOf(cols, map[int]string{col: sign})...))
			}
		}
	}
	return rows
}

// Trees of several levels, and what is nearly one: with another factor, another place, another column, and nodes in another order. What
// is taken in spite of it is a tree for rows that no numbers meet.
func TestStage13DrawnTrees(t *testing.T) {
	r := rand.New(rand.NewSource(133))
	var count [4]int
	var taken [2]int
	deepest := 0
	for range 1500 {
		cols := 2 + r.Intn(2)
		whole, rows := drawFlags(r, cols), thinRows(r, cols, 7)
		status := checkWholePromise(t, cols, whole, rows, 150, builtAnswer)
		count[status]++
		tree := impl.SolveWhole(cols, whole, rows, 150).Tree
		deepest = max(deepest, len(tree))
		if status != impl.WholeNone || len(tree) > 40 {
			continue
		}
		for range 10 {
			taken[oneOf(checkTree(t, cols, whole, rows, changedTree(r, cols, tree)))]++
		}
	}
	if min(count[0], count[1]) < 100 || min(taken[0], taken[1]) < 100 || deepest < 21 {
		t.Errorf("status: %v, not taken and taken: %v, up to %d nodes", count, taken, deepest)
	}
}

// changedTree is a tree with one thing changed.
func changedTree(r *rand.Rand, cols int, tree []impl.TreeNode) []impl.TreeNode {
	tree = copiedTree(tree)
	node := &tree[r.Intn(len(tree))]
	if r.Intn(4) == 0 {
		other := &tree[r.Intn(len(tree))]
		*node, *other = *other, *node
		return tree
	}
	if node.Col >= 0 {
		if r.Intn(3) == 0 {
			node.Col = r.Intn(cols)
		} else {
			node.At = impl.IntAdd(node.At, strconv.Itoa(r.Intn(5)-2))
		}
		return tree
	}
	i := r.Intn(len(node.Mult))
	switch r.Intn(3) {
	case 0:
		node.Mult[i] = impl.IntAdd(node.Mult[i], strconv.Itoa(r.Intn(3)-1))
	case 1:
		for k := range node.Mult {
			node.Mult[k] = impl.IntMul(node.Mult[k], strconv.Itoa(r.Intn(4)))
		}
	default:
		factor := strconv.Itoa(1 + r.Intn(4))
		for k := range node.Mult {
			node.Mult[k] = impl.IntMul(node.Mult[k], factor)
		}
	}
	return tree
}

// Rows that some numbers meet have no tree: not that of the same rows with one more that they don't meet, without its factor, and not
// one that is made of leaves with any factors.
func TestStage13NoTreeOfMetRows(t *testing.T) {
	r := rand.New(rand.NewSource(134))
	others := 0
	for range 1500 {
		cols := 1 + r.Intn(3)
		whole := drawFlags(r, cols)
		at := drawAt(r, cols, 3)
		rows := drawRows(r, cols, 1+r.Intn(5), 6, 7, at)
		if !impl.Meets(cols, rows, intTexts(at)) {
			t.Fatalf("%v are not met by %v", rows, at)
		}
		if w := checkWhole(t, cols, whole, rows, 150, builtAnswer); w.Status == impl.WholeNone {
			t.Fatalf("%v are met by %v", rows, at)
		}
		for i := range rows {
			worse := copiedRows(rows)
			worse[i].Bound = impl.IntSub(worse[i].Bound, strconv.Itoa(1+r.Intn(9)))
			w := impl.SolveWhole(cols, whole, worse, 150)
			if len(w.Tree) == 0 {
				continue
			}
			others++
			for range 4 {
				if checkTree(t, cols, whole, rows, w.Tree) || checkTree(t, cols, whole, rows, changedTree(r, cols, w.Tree)) {
					t.Fatalf("%v are met by %v: %v is taken", rows, at, w.Tree)
				}
			}
		}
	}
	if others < 300 {
		t.Errorf("%d trees of worse rows", others)
	}
}

// Many rows of many columns, up to all that there may be: the answers are those of the second reading, with layer 12's own numbers.
func TestStage13DrawnMany(t *testing.T) {
	r := rand.New(rand.NewSource(135))
	var count [4]int
	branched := 0
	for n := range 300 {
		cols, many, dense := 3+r.Intn(6), 4+r.Intn(14), 2+r.Intn(5)
		if n%15 == 0 {
			cols, many, dense = 20, 44, 1
		}
		at := drawAt(r, cols, 5)
		if n%2 == 0 {
			at = nil
		}
		rows := drawRows(r, cols, many, 2+r.Intn(8), dense, at)
		if n%3 > 0 {
			rows = append(rows[:r.Intn(3)], thinRows(r, cols, 20)...)
		}
		whole := drawFlags(r, cols)
		w := checkWhole(t, cols, whole, rows, 1+r.Intn(60), builtAnswer)
		count[w.Status]++
		branched += oneOf(w.Status != impl.WholeTired && impl.SolveWhole(cols, whole, rows, 1).Status == impl.WholeTired)
		if w.Status == impl.WholeYes {
			checkSolution(t, cols, whole, rows, w.Vals)
		}
	}
	if min(count[0], count[1], count[2]) < 10 || branched < 30 {
		t.Errorf("status: %v, branched %d", count, branched)
	}
}

// Long numbers in few rows.
func TestStage13DrawnLong(t *testing.T) {
	r := rand.New(rand.NewSource(136))
	var count [4]int
	for n := range 300 {
		cols := 1 + r.Intn(3)
		rows := drawLongRows(r, cols, 1+r.Intn(5))
		for i := range rows {
			if i%2 == 1 && n%2 == 0 {
				rows[i] = narrowed(rows[i-1], drawInt(r, 20))
			}
		}
		whole := drawFlags(r, cols)
		checkTight(t, cols, whole, rows)
		w := checkWhole(t, cols, whole, rows, 1+r.Intn(30), builtAnswer)
		count[w.Status]++
		if w.Status == impl.WholeYes {
			checkSolution(t, cols, whole, rows, w.Vals)
		}
	}
	if min(count[0], count[1], count[2]) < 3 {
		t.Errorf("status: %v", count)
	}
}
