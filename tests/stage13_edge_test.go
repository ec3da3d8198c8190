package tests

import (
	"math/big"
	"runtime"
	"slices"
	"strconv"
	"strings"
	"testing"

	"loop.example/g00007/impl"
)

// rounded is a row of two whole columns with the greatest common divisor g, and the Bound that Tighten makes of its Bound.
func rounded(t *testing.T, g, bound int, strict bool) *big.Int {
	t.Helper()
	row := impl.LinRow{Coefs: []string{strconv.Itoa(2 * g), strconv.Itoa(-3 * g)}, Strict: strict, Bound: strconv.Itoa(bound)}
	tight := checkTight(t, 2, flagsOf("ww"), []impl.LinRow{row})[0]
	sign := g / max(g, -g)
	if tight.Strict || tight.Coefs[0] != strconv.Itoa(2*sign) || tight.Coefs[1] != strconv.Itoa(-3*sign) {
		t.Fatalf("%v: %v", row, tight)
	}
	return bigOf(t, tight.Bound)
}

// The Bound is the greatest whole number of which g times as much is within the Bound: so one more is not.
func TestStage13Rounding(t *testing.T) {
	for _, g := range []int{1, 2, 3, 4, 7, 12, -1, -2, -3, -7} {
		for bound := -26; bound <= 26; bound++ {
			for _, strict := range []bool{false, true} {
				k := int(rounded(t, g, bound, strict).Int64())
				size := max(g, -g)
				isIn := func(k int) bool { return k*size < bound || k*size == bound && !strict }
				if !isIn(k) || isIn(k+1) {
					t.Errorf("g %d, Bound %d, Strict %t: %d", g, bound, strict, k)
				}
			}
		}
	}
	long := nines(40)
	for _, r := range [][4]string{
		{"1", long, "", long}, {"1", long, "s", impl.IntSub(long, "1")}, {"1", minus(long), "", minus(long)}, {"1", minus(long), "s", minus(tenTo(40))},
		{long, long, "", "1"}, {long, long, "s", "0"}, {long, minus(long), "", "-1"}, {long, minus(long), "s", "-2"}, {long, "1", "", "0"}, {long, "-1", "s", "-1"}, {long, "0", "s", "-1"},
		{minus(tenTo(39)), long, "s", "9"}, {minus(tenTo(39)), minus(long), "s", "-10"}, {"3", long, "s", impl.IntSub(strings.Repeat("3", 40), "1")},
	} {
		row := impl.LinRow{Coefs: []string{r[0]}, Strict: r[2] == "s", Bound: r[1]}
		if got := checkTight(t, 1, flagsOf("w"), []impl.LinRow{row})[0].Bound; got != r[3] {
			t.Errorf("%v: %s, want %s", row, got, r[3])
		}
	}
}

// stripRows are met by x = y + 1/2 alone, x from 0 to most. Their tree has 4 nodes more for each number that x could be.
func stripRows(t *testing.T, most int) []impl.LinRow {
	t.Helper()
	return rowsOf(t, "xyz", "2x - 2y + z = 1, z = 0, x >= 0, x <= "+strconv.Itoa(most))
}

// checkNodeLimit is for rows of which the n-th node is the last that is met.
func checkNodeLimit(t *testing.T, cols int, flags string, rows []impl.LinRow, n int) impl.Whole {
	t.Helper()
	whole := flagsOf(flags)
	w := checkWhole(t, cols, whole, rows, min(n, impl.MaxNodes), builtAnswer)
	for _, enough := range []int{n + 1, n + 2, impl.MaxNodes} {
		if enough <= impl.MaxNodes {
			checkSolved(t, cols, whole, rows, enough, w)
		}
	}
	for _, fewer := range []int{1, 2, n / 2, n - 2, n - 1} {
		if fewer > 0 && fewer < n && fewer <= impl.MaxNodes {
			checkSolved(t, cols, whole, rows, fewer, impl.Whole{Status: impl.WholeTired})
		}
	}
	return w
}

// It is tired where one node more than nodes would be met: with exactly so many it is not.
func TestStage13TiredNodes(t *testing.T) {
	for _, most := range []int{0, 1, 2, 3, 7, 20, 35, 36} {
		if w := checkNodeLimit(t, 3, "wwr", stripRows(t, most), 4*most+3); w.Status != impl.WholeNone || len(w.Tree) != 4*most+3 {
			t.Errorf("x up to %d: status %d, %d nodes", most, w.Status, len(w.Tree))
		}
	}
	ahead := rowsOf(t, "uvxyz", "2u - 3v = 2, u >= 0, 2x - 2y + z = 1, z = 0, x >= 0, x <= 36")
	if w := checkNodeLimit(t, 5, "wwwwr", ahead, 149); w.Status != impl.WholeNone || len(w.Tree) != 149 {
		t.Errorf("status %d, %d nodes", w.Status, len(w.Tree))
	}
	for _, most := range []int{37, 38, 40} {
		if w := checkNodeLimit(t, 3, "wwr", stripRows(t, most), 4*most+3); w.Status != impl.WholeTired {
			t.Errorf("x up to %d: status %d", most, w.Status)
		}
	}
	for rows, n := range map[string]int{
		"37x - 38y = 1, x >= 0": 147, "3u - 4v = 3, 37x - 38y = 1, x >= 0": 150, "2u - 3v = 2, u >= 0, 37x - 38y = 1, x >= 0": 149, "2u - 3v = 1, 37x - 38y = 1, x >= 0": 148,
		"3x - 4y = 1, x >= 0": 11, "3x - 4y = 3": 4, "2x - 3y = 1": 2, "x - y = 1": 1,
	} {
		if w := checkNodeLimit(t, 4, "wwww", rowsOf(t, "uvxy", rows), n); w.Status != impl.WholeYes {
			t.Errorf("%s: status %d", rows, w.Status)
		}
	}
	if w := checkNodeLimit(t, 4, "wwww", rowsOf(t, "uvxy", "38x - 39y = 1, x >= 0"), 151); w.Status != impl.WholeTired {
		t.Errorf("status %d", w.Status)
	}
	checkNodeLimit(t, 1, "w", rowsOf(t, "x", "2x = 1"), 1)
	checkNodeLimit(t, 1, "w", nil, 1)
	checkNodeLimit(t, 0, "", nil, 1)
}

// padded has so many rows more, ahead of the others, that say nothing.
func padded(cols, n int, rows []impl.LinRow) []impl.LinRow {
	return slices.Concat(slices.Repeat([]impl.LinRow{atMost("0", slices.Repeat([]string{"0"}, cols)...)}, n), rows)
}

// It is tired where a node would have more than MaxRows rows: with exactly so many it is not.
func TestStage13TiredRows(t *testing.T) {
	for _, most := range []int{0, 1, 5, 20} {
		deepest := 8 + most
		if most == 0 {
			deepest = 7
		}
		for more, status := range map[int]int{50 - deepest - 1: impl.WholeNone, 50 - deepest: impl.WholeNone, 50 - deepest + 1: impl.WholeTired, 44: impl.WholeTired} {
			w := checkWhole(t, 3, flagsOf("wwr"), padded(3, more, stripRows(t, most)), 150, builtAnswer)
			if w.Status != status {
				t.Errorf("x up to %d, %d rows more: %v", most, more, w)
			}
		}
	}
	for _, r := range []struct {
		rows   string
		status int
	}{{"x = 1", impl.WholeYes}, {"2x = 1", impl.WholeNone}, {"x - y = 1", impl.WholeYes}, {"2x - 3y = 1", impl.WholeTired}, {"5x - y <= 2, 5x + y >= 3, y <= 1", impl.WholeTired}} {
		rows := rowsOf(t, "xy", r.rows)
		full := padded(2, 50-len(rows), rows)
		if w := checkWhole(t, 2, flagsOf("ww"), full, 150, builtAnswer); w.Status != r.status {
			t.Errorf("%s: %v", r.rows, w)
		}
		checkSolved(t, 2, flagsOf("ww"), padded(2, 1, full), 150, impl.Whole{Status: impl.WholeBad})
	}
	checkSolved(t, 2, flagsOf("ww"), padded(2, 47, rowsOf(t, "xy", "2x - 3y = 1")), 150, impl.Whole{Status: impl.WholeYes, Vals: []string{"-1", "-1"}})
}

// It is tired where the Bound of a row of the first node has more than RowDigits digits, whatever the rows say: with exactly so many it is not.
func TestStage13TiredBounds(t *testing.T) {
	long := nines(40)
	for _, r := range []struct {
		flag string
		row  impl.LinRow
		want impl.Whole
	}{
		{"w", atMost(minus(long), "1"), impl.Whole{Status: impl.WholeYes, Vals: []string{minus(long)}}},
		{"w", below(impl.IntAdd(minus(long), "1"), "1"), impl.Whole{Status: impl.WholeYes, Vals: []string{minus(long)}}},
		{"w", below(minus(long), "1"), impl.Whole{Status: impl.WholeTired}},
		{"w", below(minus(long), "-1"), impl.Whole{Status: impl.WholeTired}},
		{"r", below(minus(long), "1"), impl.Whole{Status: impl.WholeYes, Vals: []string{minus(tenTo(40))}}},
		{"w", below(minus(long), "2"), impl.Whole{Status: impl.WholeYes, Vals: []string{minus("5" + strings.Repeat("0", 39))}}},
		{"w", below(minus(long), "0"), impl.Whole{Tree: []impl.TreeNode{{Col: -1, Mult: []string{"1"}}}}},
	} {
		checkSolved(t, 1, flagsOf(r.flag), []impl.LinRow{r.row}, 150, r.want)
		checkWhole(t, 1, flagsOf(r.flag), []impl.LinRow{r.row}, 1, plainAnswer)
		if r.want.Status == impl.WholeTired {
			checkSolved(t, 1, flagsOf(r.flag), []impl.LinRow{below("0", "0"), r.row, atMost("-1", "0")}, 150, r.want)
		}
	}
	// x < -(10^40 - 1) and x >= -(10^40 - 1): what is too long for the search is not for the checker.
	rows := []impl.LinRow{below(minus(long), "1"), atMost(long, "-1")}
	checkWhole(t, 1, flagsOf("w"), rows, 150, plainAnswer)
	checkTaken(t, 1, flagsOf("w"), rows, treeOf(t, "x", "1 1"))
}

// wedgeRows are met where x is between 10 w + more + 2/5 and 10 w + more + 3/5, w being the number and y 1, and next to it.
func wedgeRows(w string, more int) []impl.LinRow {
	return []impl.LinRow{
		atMost(w, "0", "0", "1"), atMost(impl.IntSub("0", w), "0", "0", "-1"),
		atMost(strconv.Itoa(5*more+2), "5", "-1", "-50"), atMost(strconv.Itoa(-5*more-3), "-5", "-1", "50"), atMost("1", "0", "1", "0"),
	}
}

// Branches at long numbers. It is tired where a Bound would have more than RowDigits digits; and where it would have to tell a tree with an
// At of RowDigits digits, which CheckTree does not take.
func TestStage13TiredBranches(t *testing.T) {
	none, tired := impl.WholeNone, impl.WholeTired
	for _, r := range []struct {
		number string
		status [2]int
	}{
		{"0", [2]int{none, none}}, {"7", [2]int{none, none}}, {"-7", [2]int{none, none}}, {tenTo(37), [2]int{none, none}}, {minus(tenTo(37)), [2]int{none, none}},
		{nines(38), [2]int{none, none}}, {minus(nines(38)), [2]int{none, none}}, {tenTo(38), [2]int{tired, tired}}, {minus(tenTo(38)), [2]int{tired, none}},
		{nines(39), [2]int{tired, tired}}, {minus(nines(39)), [2]int{tired, tired}}, {tenTo(39), [2]int{tired, tired}}, {minus(tenTo(39)), [2]int{tired, tired}},
		{nines(40), [2]int{tired, tired}}, {minus(nines(40)), [2]int{tired, tired}},
	} {
		for i, more := range []int{0, 9} {
			w := checkWhole(t, 3, flagsOf("www"), wedgeRows(r.number, more), 150, plainAnswer)
			if w.Status != r.status[i] || w.Status == none && len(w.Tree) != 3 {
				t.Errorf("%s, %d more: %v", r.number, more, w)
			}
		}
	}
	// With w a number, y is 10 w + 1/3 where x is 0, and 10 w - 1/3 where it is 1: both are branched at, and the third point is whole.
	for _, r := range []struct {
		number string
		more   int
		status int
	}{
		{"5", 0, impl.WholeYes}, {tenTo(38), 0, impl.WholeYes}, {nines(39), 0, impl.WholeYes}, {nines(39), 9, impl.WholeYes}, {tenTo(39), 0, impl.WholeTired}, {nines(40), 0, impl.WholeTired},
		{minus(nines(39)), 0, impl.WholeYes}, {minus(tenTo(39)), 9, impl.WholeYes}, {minus(tenTo(39)), 0, impl.WholeTired}, {minus(nines(40)), 0, impl.WholeTired},
	} {
		bound := strconv.Itoa(3*r.more + 1)
		rows := []impl.LinRow{atMost(bound, "2", "3", "-30"), atMost(minus(bound), "-2", "-3", "30"), atMost(r.number, "0", "0", "1"), atMost(impl.IntSub("0", r.number), "0", "0", "-1")}
		if w := checkWhole(t, 3, flagsOf("www"), rows, 150, plainAnswer); w.Status != r.status {
			t.Errorf("%s, %d more: %v", r.number, r.more, w)
		}
	}
}

// It is tired where a point has no Vals, and not where they have exactly so many digits as are allowed.
func TestStage13TiredPoint(t *testing.T) {
	seen := map[int]int{}
	scales := append([]string{tenTo(34)}, slices.Repeat([]string{tenTo(39)}, 10)...)
	for last := 28; last < 32; last++ {
		scales[10] = "2" + strings.Repeat("0", last)
		cols, rows, vals := chainRows(scales)
		want := impl.Whole{Status: impl.WholeYes}
		for _, x := range vals {
			want.Vals = append(want.Vals, ratText(x))
		}
		size := len(vals[cols-1].Denom().String())
		seen[size]++
		if size > impl.IntDigits {
			want = impl.Whole{Status: impl.WholeTired}
		}
		checkSolved(t, cols, make([]bool, cols), rows, 150, want)
		checkSolved(t, cols, make([]bool, cols), rows, 1, want)
		isLast := make([]bool, cols)
		isLast[cols-1] = true
		if w := checkWhole(t, cols, isLast, rows, 150, builtAnswer); (w.Status == impl.WholeTired) != (size > impl.IntDigits) {
			t.Errorf("%d digits: %v", size, w.Status)
		}
	}
	if seen[impl.IntDigits] != 1 || seen[impl.IntDigits+1] != 1 {
		t.Errorf("numbers of digits: %v", seen)
	}
}

// Arguments that are bad: rows that are not right, fewer and more flags than cols, and numbers of nodes that are none.
func TestStage13Wrong(t *testing.T) {
	refuse := func(cols int, whole []bool, rows []impl.LinRow, tree []impl.TreeNode) {
		t.Helper()
		checkTight(t, cols, whole, rows)
		for _, nodes := range []int{-1, 0, 1, 10, 150, 151} {
			checkSolved(t, cols, whole, rows, nodes, impl.Whole{Status: impl.WholeBad})
		}
		if checkTree(t, cols, whole, rows, tree) || checkTree(t, cols, whole, rows, nil) || len(impl.Tighten(cols, whole, rows)) > 0 {
			t.Fatalf("%d %v %v", cols, whole, rows)
		}
	}
	rows := rowsOf(t, "xy", "x <= 1, x >= 2")
	tree := treeOf(t, "xy", "1 1")
	checkTaken(t, 2, flagsOf("ww"), rows, tree)
	for _, flags := range []string{"", "w", "r", "www", "rrr", "wwwwwwwwww"} {
		refuse(2, flagsOf(flags), rows, tree)
	}
	for _, cols := range []int{-1, 0, 1, 3, 21, -1 << 63, 1<<63 - 1} {
		refuse(cols, flagsOf("ww"), rows, tree)
		refuse(cols, flagsOf(strings.Repeat("w", max(0, min(cols, 30)))), rows, tree)
	}
	refuse(21, make([]bool, 21), nil, nil)
	refuse(-1, nil, nil, nil)
	for _, coefs := range [][]string{nil, {"1"}, {"1", "2", "3"}} {
		refuse(2, flagsOf("ww"), append(slices.Clone(rows), atMost("5", coefs...)), treeOf(t, "xy", "1 1 0"))
	}
	for _, text := range append(noInts(), tenTo(40), nines(41), minus(tenTo(40))) {
		for _, row := range []impl.LinRow{atMost(text, "0", "0"), below("5", text, "0"), atMost("5", "0", text)} {
			refuse(2, flagsOf("ww"), append(slices.Clone(rows), row), treeOf(t, "xy", "1 1 0"))
		}
	}
	refuse(2, flagsOf("ww"), padded(2, 49, rows), nil)
	for _, nodes := range []int{0, -1, -150, 151, 152, 1000, -1 << 63, 1<<63 - 1} {
		checkSolved(t, 2, flagsOf("ww"), rows, nodes, impl.Whole{Status: impl.WholeBad})
		checkSolved(t, 0, nil, nil, nodes, impl.Whole{Status: impl.WholeBad})
	}
	for _, nodes := range []int{1, 2, 149, 150} {
		checkSolved(t, 2, flagsOf("ww"), rows, nodes, impl.Whole{Tree: tree})
		checkSolved(t, 0, nil, nil, nodes, impl.Whole{Status: impl.WholeYes})
	}
}

// When a call answers, what it has sent for is at its end, however it ends: nothing goes on or waits.
func TestStage13AllEnd(t *testing.T) {
	before := runtime.NumGoroutine()
	for range 30 {
		impl.SolveWhole(3, flagsOf("wwr"), stripRows(t, 37), 150)
		impl.SolveWhole(3, flagsOf("wwr"), stripRows(t, 5), 150)
		impl.SolveWhole(2, flagsOf("ww"), rowsOf(t, "xy", "2x - 3y = 1"), 150)
		impl.SolveWhole(1, flagsOf("w"), []impl.LinRow{below(minus(nines(40)), "1")}, 150)
		impl.SolveWhole(1, flagsOf("w"), nil, 0)
	}
	for range 1000 {
		if runtime.NumGoroutine() <= before {
			return
		}
		runtime.Gosched()
	}
	t.Errorf("%d goroutines, before %d", runtime.NumGoroutine(), before)
}
