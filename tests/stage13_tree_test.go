package tests

import (
	"slices"
	"strings"
	"testing"

	"loop.example/g00007/impl"
)

// A treeRow is rows, and a tree for them.
type treeRow struct {
	names string
	flags string
	rows  string
	tree  string
}

func checkTrees(t *testing.T, want bool, list []treeRow) {
	t.Helper()
	for _, r := range list {
		rows, tree := rowsOf(t, r.names, r.rows), treeOf(t, r.names, r.tree)
		if checkTree(t, len(r.names), flagsOf(r.flags), rows, tree) != want {
			t.Errorf("%s %s, %s: CheckTree of %s is not %t", r.names, r.flags, r.rows, r.tree, want)
		}
		if want {
			checkTaken(t, len(r.names), flagsOf(r.flags), rows, tree)
		}
	}
}

const wedge = "5x - y <= 2, 5x + y >= 3, y <= 1"

// Trees that SolveWhole does not make: other columns and places, factors that are not a core's or have a common divisor.
func TestStage13OtherTrees(t *testing.T) {
	checkTrees(t, true, []treeRow{
		{"x", "w", "x <= 0, x >= 1", "1 1"}, {"x", "w", "x <= 0, x >= 1", "2 2"}, {"x", "r", "x <= 0, x >= 1", "7 7"}, {"x", "w", "3x <= 2, 3x >= 1", "2 2"},
		{"x", "w", "x <= 0, x >= 1, x >= 2", "2 1 1"}, {"x", "w", "x <= 0, x >= 1, 0 <= 0", "1 1 9"}, {"x", "w", "x <= 0, x >= 1, 0 <= 1", "3 3 2"},
		{"x", "r", "x < 0, x >= 0", "1 1"}, {"x", "r", "x < 0, x >= 0", "4 4"}, {"x", "r", "x < 0, x >= 0, x <= 0", "1 3 2"}, {"x", "w", "0 < 0", "5"}, {"x", "w", "0 < 0, 0 <= -3", "0 1"},
		{"x", "w", "x <= 0, x >= 1", "x@0; 1 1 0; 1 1 0"}, {"x", "w", "x <= 0, x >= 1", "x@0; 0 1 1; 1 0 1"}, {"x", "w", "x <= 0, x >= 1", "x@5; 1 1 0; 1 0 1"}, {"x", "w", "x <= 0, x >= 1", "x@-5; 0 1 1; 1 1 0"},
		{"x", "w", "x <= 0, x >= 1", "x@0; x@0; 1 1 0 0; 1 1 0 0; 1 1 0"}, {"x", "w", "x <= 0, x >= 1", "x@0; 1 1 0; x@3; 1 1 0 0; 1 1 0 0"}, {"x", "w", "x <= 0, x >= 1", "x@7; x@-7; 0 1 0 1; 1 1 0 0; 1 1 0"},
		{"xy", "ww", wedge, "x@0; 0 1 1 5; 1 0 1 5"}, {"xy", "ww", wedge, "x@0; 0 2 2 10; 3 0 3 15"}, {"xy", "ww", wedge, "y@0; 1 1 0 2; x@0; 0 1 1 0 5; 1 0 1 0 5"},
		{"xy", "ww", wedge, "y@1; x@0; 0 1 1 0 5; 1 0 0 1 5; 0 0 1 1"}, {"xy", "ww", wedge, "x@3; x@0; 0 1 1 0 5; 1 0 1 0 5; 1 0 1 5"},
	})
}

// Trees that are none: a node that is left over or lacking, branches and leaves that are wrong.
func TestStage13NoTrees(t *testing.T) {
	checkTrees(t, false, []treeRow{
		{"x", "w", "x <= 0, x >= 1", "1 2"}, {"x", "w", "x <= 0, x >= 1", "0 0"}, {"x", "w", "x <= 0, x >= 1", "0 1"}, {"x", "w", "x <= 0, x >= 1", "-1 -1"}, {"x", "w", "x <= 0, x >= 1", "1"}, {"x", "w", "x <= 0, x >= 1", "1 1 0"},
		{"x", "w", "x <= 0, x >= 1", ""}, {"x", "w", "x <= 0, x >= 1", "1 1; 1 1"}, {"x", "w", "x <= 0, x >= 1", "x@0; 1 1 0"}, {"x", "w", "x <= 0, x >= 1", "x@0; 1 1 0; 1 1 0; 1 1 0"}, {"x", "w", "x <= 0, x >= 1", "x@0"},
		{"x", "w", "x <= 0, x >= 1", "x@0; 1 1; 1 1"}, {"x", "w", "x <= 0, x >= 1", "1 1; x@0"}, {"x", "w", "x <= 0, x >= 1", "x@0; 1 0 1; 0 1 1"}, {"x", "r", "x <= 0, x >= 1", "x@0; 1 1 0; 1 1 0"},
		{"x", "w", "x <= 0, x >= 1", "x@0; x@0; 1 1 0 0; 1 1 0 0"}, {"x", "w", "x <= 0, x >= 1", "x@0; 1 1 0; x@0; 1 1 0 0"},
		{"x", "w", "x <= 0, x >= 0", "1 1"}, {"x", "r", "x <= 0, x >= 0, 0 < 5", "1 1 0"}, {"x", "r", "x <= 0, x >= 0, 0 < 5", "1 1 1"}, {"x", "r", "x <= 0, x >= 0, 0 < 0", "1 1 0"}, {"x", "w", "x <= 0, x >= 0, 0 <= -1", "1 1 0"},
		{"x", "w", "x <= 0, x >= -1", "1 1"}, {"x", "w", "x <= 0, x >= 1", "3 2"}, {"xy", "ww", "x - y <= -1, y <= 0, x >= 0", "1 0 1"}, {"xy", "ww", "x - y <= -1, y <= 0, x >= 0", "1 1 0"}, {"xy", "ww", "x + y <= -1, x >= 0, y >= 0", "1 1 2"},
		{"xy", "ww", wedge, "x@0; 1 0 1 5; 0 1 1 5"}, {"xy", "ww", wedge, "y@0; 0 1 1 5; 1 0 1 5"}, {"xy", "ww", wedge, "x@1; 0 1 1 5; 1 0 1 5"}, {"xy", "ww", wedge, "x@-1; 0 1 1 5; 1 0 1 5"}, {"xy", "rw", wedge, "x@0; 0 1 1 5; 1 0 1 5"}, {"xy", "ww", wedge, "1 1 2"},
		{"xy", "ww", "2x + 2y <= 1, x + y >= 1, x <= 5", "1 2 0"}, {"xy", "wr", "2x + 2y <= 1, x + y >= 1, x <= 5", "1 1 0"},
	})
	checkTrees(t, true, []treeRow{
		{"x", "r", "x <= 0, x >= 0, 0 < 0", "1 1 1"}, {"x", "r", "x <= 0, x >= 0, 0 < 0", "0 0 1"}, {"x", "w", "x <= 0, x >= 0, 0 <= -1", "1 1 1"}, {"xy", "ww", "x - y <= -1, y <= 0, x >= 0", "1 1 1"},
		{"xy", "ww", "2x + 2y <= 1, x + y >= 1, x <= 5", "1 1 0"}, {"xy", "wr", "2x + 2y <= 1, x + y >= 1, x <= 5", "1 2 0"},
	})
}

// rowsOneTwo are met by nothing, with any branch or none.
func rowsOneTwo(t *testing.T) []impl.LinRow {
	t.Helper()
	return rowsOf(t, "xy", "x <= 0, x >= 1")
}

// takesTree asks whether a tree is taken for rowsOneTwo, x being whole and y not.
func takesTree(t *testing.T, tree ...impl.TreeNode) bool {
	t.Helper()
	return checkTree(t, 2, flagsOf("wr"), rowsOneTwo(t), tree)
}

func leafOf(mult ...string) impl.TreeNode {
	return impl.TreeNode{Col: -1, Mult: mult}
}

// Branches: the columns that may be, the Ats that are an int text of at most RowDigits - 1 digits, and no Mult.
func TestStage13TreeBranches(t *testing.T) {
	both := func(branch impl.TreeNode) bool {
		t.Helper()
		return takesTree(t, branch, leafOf("1", "1", "0"), leafOf("1", "1", "0"))
	}
	for _, col := range []int{-2, 1, 2, 3, 20, -1 << 63, 1<<63 - 1, 1 << 32} {
		if both(impl.TreeNode{Col: col, At: "0"}) {
			t.Errorf("a branch at column %d", col)
		}
	}
	for _, at := range []string{"0", "1", "-1", "17", nines(39), minus(nines(39)), tenTo(38), minus(tenTo(38))} {
		if !both(impl.TreeNode{At: at}) {
			t.Errorf("no branch at %s", at)
		}
		for _, mult := range [][]string{{"0"}, {"1", "1"}, {"1", "1", "0"}, {""}} {
			if both(impl.TreeNode{At: at, Mult: mult}) {
				t.Errorf("a branch with Mult %v", mult)
			}
		}
		if !both(impl.TreeNode{At: at, Mult: []string{}}) {
			t.Error("an empty Mult")
		}
	}
	for _, at := range append(noInts(), tenTo(39), minus(tenTo(39)), nines(40), minus(nines(40)), tenTo(40), nines(41), nines(2500)) {
		if both(impl.TreeNode{At: at}) {
			t.Errorf("a branch at %s", at)
		}
	}
}

// Leaves: no At, and as many factors as rows, int texts that are not below 0.
func TestStage13TreeLeaves(t *testing.T) {
	for _, at := range []string{"0", "1", "-1", "x", " ", "-"} {
		if takesTree(t, impl.TreeNode{Col: -1, At: at, Mult: []string{"1", "1"}}) {
			t.Errorf("a leaf with At %q", at)
		}
	}
	for _, mult := range [][]string{nil, {}, {"1"}, {"1", "1", "1"}, {"1", "1", "0"}, {"0", "1", "1"}, {"1", "1", ""}, {"-1", "-1"}, {"1", "-1"}, {"0", "0"}, {"1", "0"}, {"0", "1"}} {
		if takesTree(t, leafOf(mult...)) {
			t.Errorf("a leaf with %v", mult)
		}
	}
	for _, text := range noInts() {
		if takesTree(t, leafOf(text, text)) || takesTree(t, leafOf("1", text)) || takesTree(t, leafOf(text, "1")) {
			t.Errorf("a leaf with %q", text)
		}
	}
	for _, text := range []string{"1", "2", "1000", nines(40), nines(41), nines(2499), nines(2500), tenTo(2499)} {
		if !takesTree(t, leafOf(text, text)) || takesTree(t, leafOf(text, impl.IntSub(text, "1"))) {
			t.Errorf("leaves with %s", text)
		}
	}
}

// deepTree branches so often, each time in the second child, with factors for n rows at first, the last two being those of rowsOneTwo.
func deepTree(n, depth int) (tree []impl.TreeNode) {
	mult := append(slices.Repeat([]string{"0"}, n-2), "1", "1")
	for range depth {
		mult = append(mult, "0")
		tree = append(tree, impl.TreeNode{At: "3"}, leafOf(slices.Clone(mult)...))
	}
	return append(tree, leafOf(mult...))
}

// No node may have more than MaxRows rows, on whichever side it is; how many nodes there are is free.
func TestStage13TreeRows(t *testing.T) {
	for _, n := range []int{2, 3, 30, 48, 49, 50} {
		rows := padded(2, n-2, rowsOneTwo(t))
		for _, depth := range []int{0, 1, 2, 50 - n - 1, 50 - n, 50 - n + 1, 50 - n + 2} {
			if depth < 0 {
				continue
			}
			tree := deepTree(n, depth)
			if checkTree(t, 2, flagsOf("ww"), rows, tree) != (n+depth <= 50) {
				t.Errorf("%d rows, %d branches", n, depth)
			}
			if depth == 1 && n < 50 {
				checkTaken(t, 2, flagsOf("ww"), rows, tree)
			}
		}
	}
	var grow func(mult []string, depth int) []impl.TreeNode
	grow = func(mult []string, depth int) []impl.TreeNode {
		if depth == 0 {
			return []impl.TreeNode{leafOf(mult...)}
		}
		below := grow(append(slices.Clone(mult), "0"), depth-1)
		return slices.Concat([]impl.TreeNode{{At: "-4"}}, below, below)
	}
	full := grow([]string{"1", "1"}, 9)
	if len(full) != 1023 {
		t.Fatalf("%d nodes", len(full))
	}
	checkTaken(t, 2, flagsOf("ww"), rowsOneTwo(t), full)
	for _, i := range []int{0, 1, 511, 512, 1021, 1022} {
		if checkTree(t, 2, flagsOf("ww"), rowsOneTwo(t), slices.Delete(slices.Clone(full), i, i+1)) {
			t.Errorf("without node %d", i)
		}
	}
}

// A tree is for the rows as Tighten gives them, not for those that are handed in.
func TestStage13TreeTightens(t *testing.T) {
	rows := rowsOf(t, "xy", "6x + 9y <= 4, 4x + 6y > 4")
	tight := strings.Fields("1 1")
	if !checkTree(t, 2, flagsOf("ww"), rows, []impl.TreeNode{leafOf(tight...)}) {
		t.Error("2x + 3y <= 1 and >= 3")
	}
	for _, flags := range []string{"wr", "rw", "rr"} {
		if checkTree(t, 2, flagsOf(flags), rows, []impl.TreeNode{leafOf(tight...)}) || !checkTree(t, 2, flagsOf(flags), rows, []impl.TreeNode{leafOf("2", "3")}) {
			t.Errorf("%s: 6x + 9y <= 4 and 4x + 6y > 4", flags)
		}
	}
}
