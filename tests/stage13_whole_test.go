package tests

import (
	"strings"
	"testing"

	"loop.example/g00007/impl"
)

// flagsOf has a w for each whole column and another letter for each other one.
func flagsOf(text string) (whole []bool) {
	for _, letter := range text {
		whole = append(whole, letter == 'w')
	}
	return whole
}

// treeOf reads nodes with semicolons between them: a leaf's factors, or a branch such as x@-3.
func treeOf(t *testing.T, names, text string) (tree []impl.TreeNode) {
	t.Helper()
	for _, part := range strings.Split(text, ";") {
		name, at, isBranch := strings.Cut(strings.TrimSpace(part), "@")
		if !isBranch {
			tree = append(tree, impl.TreeNode{Col: -1, Mult: strings.Fields(part)})
			continue
		}
		col := strings.Index(names, name)
		if col < 0 || !impl.IsInt(at) {
			t.Fatalf("%q is no branch", part)
		}
		tree = append(tree, impl.TreeNode{Col: col, At: at})
	}
	return tree
}

// A tightRow is a row, and what Tighten makes of it.
type tightRow struct {
	names string
	flags string
	row   string
	tight string
}

func checkTightRows(t *testing.T, list []tightRow) {
	t.Helper()
	for _, r := range list {
		got := checkTight(t, len(r.names), flagsOf(r.flags), rowsOf(t, r.names, r.row))
		if want := rowsOf(t, r.names, r.tight); !sameRows(got, want) {
			t.Errorf("%s %s, %s: %v, want %v", r.names, r.flags, r.row, got, want)
		}
	}
}

// Rows of whole columns are divided by the greatest common divisor of their Coefs, their Bounds rounded.
func TestStage13Tighten(t *testing.T) {
	checkTightRows(t, []tightRow{
		{"x", "w", "x <= 5", "x <= 5"}, {"x", "w", "x < 5", "x <= 4"}, {"x", "w", "x < 0", "x <= -1"}, {"x", "w", "-x < 1", "-x <= 0"},
		{"x", "w", "2x <= 5", "x <= 2"}, {"x", "w", "2x < 5", "x <= 2"}, {"x", "w", "2x <= 6", "x <= 3"}, {"x", "w", "2x < 6", "x <= 2"},
		{"x", "w", "2x <= -5", "x <= -3"}, {"x", "w", "2x < -5", "x <= -3"}, {"x", "w", "2x <= -6", "x <= -3"}, {"x", "w", "2x < -6", "x <= -4"},
		{"x", "w", "-3x <= 0", "-x <= 0"}, {"x", "w", "-3x < 0", "-x <= -1"}, {"x", "w", "-3x <= 1", "-x <= 0"}, {"x", "w", "-3x < -1", "-x <= -1"},
		{"xy", "ww", "4x - 6y <= 5", "2x - 3y <= 2"}, {"xy", "ww", "4x - 6y < 4", "2x - 3y <= 1"}, {"xy", "ww", "-4x - 6y < -4", "-2x - 3y <= -3"},
		{"xy", "ww", "4x - 7y < 5", "4x - 7y <= 4"}, {"xy", "ww", "0x - 7y < 5", "-y <= 0"}, {"xyz", "www", "6x + 10y - 15z <= 7", "6x + 10y - 15z <= 7"},
		{"xyz", "www", "12x + 20y - 30z < 7", "6x + 10y - 15z <= 3"}, {"xyz", "www", "12x - 18z < 6", "2x - 3z <= 0"},
	})
}

// A row with a column that is not whole stays as it is, one without any column, too.
func TestStage13TightenNot(t *testing.T) {
	checkTightRows(t, []tightRow{
		{"x", "r", "2x <= 5", "2x <= 5"}, {"x", "r", "2x < 6", "2x < 6"}, {"x", "w", "0 < 6", "0 < 6"}, {"x", "w", "0 < 0", "0 < 0"}, {"x", "w", "0 <= -4", "0 <= -4"},
		{"xy", "wr", "2x + 2y < 6", "2x + 2y < 6"}, {"xy", "rw", "2x + 2y <= 7", "2x + 2y <= 7"}, {"xy", "rr", "4x + 2y < 7", "4x + 2y < 7"},
		{"xy", "wr", "2x < 6", "x <= 2"}, {"xy", "wr", "2y < 6", "2y < 6"}, {"xy", "rw", "2x < 6", "2x < 6"}, {"xy", "rw", "-4y < 6", "-y <= 1"},
		{"xyz", "wrw", "4x - 2z <= 5", "2x - z <= 2"}, {"xyz", "wrw", "4x + 2y - 2z <= 5", "4x + 2y - 2z <= 5"}, {"", "", "0 < 1", "0 < 1"}, {"", "", "0 <= -1, 0 < 0", "0 <= -1, 0 < 0"},
		{"xy", "wr", "2x < 6, 2y < 6, 0 < 6, 2x + 2y <= 6, 3x <= -7", "x <= 2, 2y < 6, 0 < 6, 2x + 2y <= 6, x <= -3"},
	})
}

// A wholeRow is rows, and what SolveWhole says of them: the numbers, or the tree.
type wholeRow struct {
	names string
	flags string
	rows  string
	says  string
}

// checkSays holds what was worked out by hand also against the second reading.
func checkSays(t *testing.T, r wholeRow, want impl.Whole) {
	t.Helper()
	rows, whole := rowsOf(t, r.names, r.rows), flagsOf(r.flags)
	checkSolved(t, len(r.names), whole, rows, impl.MaxNodes, want)
	checkWhole(t, len(r.names), whole, rows, impl.MaxNodes, plainAnswer)
}

func checkYes(t *testing.T, list []wholeRow) {
	t.Helper()
	for _, r := range list {
		checkSays(t, r, impl.Whole{Status: impl.WholeYes, Vals: strings.Fields(r.says)})
	}
}

func checkNone(t *testing.T, list []wholeRow) {
	t.Helper()
	for _, r := range list {
		checkSays(t, r, impl.Whole{Tree: treeOf(t, r.names, r.says)})
	}
}

// Numbers that meet the rows: where all columns must be whole, some of them, and none.
func TestStage13Yes(t *testing.T) {
	checkYes(t, []wholeRow{
		{"", "", "", ""}, {"", "", "0 <= 0, 0 < 1", ""}, {"x", "w", "", "0"}, {"x", "w", "x = 1", "1"}, {"x", "w", "x > 1, x < 3", "2"}, {"x", "w", "2x > 2, 2x <= 4", "2"},
		{"x", "w", "5x > -12, 5x < -9", "-2"}, {"x", "r", "3x >= 1, 3x <= 2", "1/2"}, {"x", "w", "3x >= 1, 3x <= 3", "1"},
		{"xy", "ww", "x + y = 1", "0 1"}, {"xy", "ww", "2x + 3y = 1", "2 -1"}, {"xy", "ww", "3x - 4y > 0, 3x - 5y < 0, y <= 2", "3 2"},
		{"xy", "wr", "x + y < 2, x - y < 1, x > 0", "1 1/2"}, {"xy", "rw", "x + y < 2, x - y < 1, 2x = 1", "1/2 0"},
		{"xy", "rw", "5x - y <= 2, 5x + y >= 3, y <= 1", "1/2 1"}, {"xy", "rr", "5x - y <= 2, 5x + y >= 3, y <= 1", "1/2 1"},
		{"xyz", "wrw", "2x - 2y + z = 1, z = 0, x >= 0", "0 -1/2 0"}, {"xy", "wr", "2x + 2y = 1", "0 1/2"},
	})
}

// Rows that no numbers meet, and such that rounding alone shows to be so: the tree is a leaf.
func TestStage13Leaf(t *testing.T) {
	checkNone(t, []wholeRow{
		{"", "", "0 < 0", "1"}, {"", "", "0 <= 0, 0 <= -1", "0 1"}, {"x", "w", "x <= 1, x >= 2", "1 1"}, {"x", "r", "2x <= 1, 3x >= 2", "3 2"}, {"x", "w", "2x <= 1, 3x >= 2", "1 1"},
		{"x", "w", "3x <= 2, -3x <= -1", "1 1"}, {"x", "w", "2x = 1", "1 1"}, {"x", "w", "2x > 2, 2x < 4", "1 1"}, {"x", "w", "5x > -15, 5x < -10", "1 1"},
		{"x", "r", "x < 1, x > 1, 0 <= 5", "1 1 0"}, {"xy", "ww", "2x + 2y = 1", "1 1"}, {"xy", "ww", "3x - 4y > 0, 3x - 5y < 0, y <= 1", "1 1 1"},
		{"xy", "wr", "2x + y < 3, 2x - y < 1, x > 0", "1 1 4"}, {"xy", "wr", "2x + y <= 3, 2x - y <= 1, y < 1, x > 0", "0 1 1 2"},
	})
}

// Rows that rational numbers meet and whole ones do not: which column is branched at, where, and in which order the nodes come.
func TestStage13Branches(t *testing.T) {
	checkNone(t, []wholeRow{
		{"xy", "ww", "5x - y <= 2, 5x + y >= 3, y <= 1", "x@0; 0 1 1 5; 1 0 1 5"}, {"xy", "wr", "5x - y <= 2, 5x + y >= 3, y <= 1", "x@0; 0 1 1 5; 1 0 1 5"},
		{"xy", "ww", "5x - y <= -3, 5x + y >= -2, y <= 1", "x@-1; 0 1 1 5; 1 0 1 5"}, {"xy", "ww", "5x - y <= -8, 5x + y >= -7, y <= 1", "x@-2; 0 1 1 5; 1 0 1 5"},
		{"xy", "ww", "5y - x <= 2, 5y + x >= 3, x <= 1", "y@0; 0 1 1 5; 1 0 1 5"}, {"xy", "rw", "5y - x <= 12, 5y + x >= 13, x <= 1", "y@2; 0 1 1 5; 1 0 1 5"},
		{"xy", "ww", "3x + 5y = 4, x >= 0, y >= 0", "y@0; x@1; 0 1 0 0 5 3; 1 0 0 5 0 3; 1 0 3 0 5"},
		{"xy", "ww", "3x + 5y = 7, x >= 0, y >= 0", "y@1; y@0; x@2; 0 1 0 0 0 5 3; 1 0 0 5 0 0 3; x@0; 0 1 0 0 5 0 3; 1 0 0 0 0 5 3; 1 0 3 0 5"},
		{"xyz", "wwr", "2x - 2y + z = 1, z = 0, x >= 0, x <= 1", "y@-1; 1 0 0 1 2 0 2; y@0; x@0; 0 1 1 0 0 0 2 0 2; 1 0 0 1 0 0 0 2 2; 0 1 1 0 0 2 0 2"},
		{"xyz", "www", "2x - 2y + z = 1, z = 0, x >= 0, x <= 1", "y@-1; 1 0 0 1 2 0 2; y@0; x@0; 0 1 1 0 0 0 2 0 2; 1 0 0 1 0 0 0 2 2; 0 1 1 0 0 2 0 2"},
		{"xyz", "wwr", "2x - 2y + z = 1, z = 0, x >= -2, x <= -1", "y@-2; y@-3; 1 0 0 1 2 0 0 2; x@-2; 0 1 1 0 0 0 0 2 2; 1 0 0 1 0 0 2 0 2; 0 1 1 0 0 2 2"},
	})
}
