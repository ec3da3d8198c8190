package tests

import (
	"math/big"
	"slices"
	"strings"
	"testing"

	"loop.example/g00007/impl"
)

// A Strict row beside one that is not, with the same Bound: in both orders, and both ways.
func TestStage12StrictBesideOthers(t *testing.T) {
	checkMet(t, []metRow{
		{"x", "x <= 3, x < 3, x > 2", "5/2"}, {"x", "x < 3, x <= 3, x > 2", "5/2"}, {"x", "x <= 3, x > 2", "3"},
		{"x", "x >= 3, x > 3", "4"}, {"x", "x > 3, x >= 3", "4"}, {"x", "x >= 3, x >= 3", "3"}, {"x", "x > 3, x > 3", "4"},
		{"x", "x >= 0, x > 0, x < 1, x <= 1", "1/2"}, {"x", "2x >= 1, 2x > 1, x < 1", "2/3"}, {"x", "4x > 2, 2x >= 1, x <= 1", "1"},
		{"xy", "x + y <= 1, x + y < 1, x = 1", "1 -1"}, {"xy", "x + y <= 1, 2x + 2y < 2, x = 1, 2y > -1", "1 -1/3"},
	})
	checkUnmet(t, []unmetRow{
		{"x", "x <= 3, x < 3, x >= 3", "0 1 1"}, {"x", "x < 3, x <= 3, x >= 3", "1 0 1"}, {"x", "x < 3, x <= 3, x > 3", "0 1 1"},
		{"x", "x <= 3, x < 3, x > 3, x >= 3", "0 1 0 1"}, {"x", "x < 3, x <= 3, x >= 3, x > 3", "0 1 0 1"},
		{"xy", "x + y < 2, x + y <= 2, x >= 1, y >= 1", "1 0 1 1"}, {"xy", "x + y <= 2, x + y < 2, x >= 1, y >= 1, y > 1", "0 1 1 0 1"},
		{"xy", "x - y <= 0, y - x <= 0, x < 0, y > 0", "0 1 1 1"}, {"xy", "x - y <= 0, y - x <= 0, x < 0, y >= 0", "0 1 1 1"},
	})
}

// Rows that are met at one point alone, such that are met only next to it, and such that would be met there but for one that is Strict.
func TestStage12OnePoint(t *testing.T) {
	checkMet(t, []metRow{
		{"xy", "x + y <= 1, x >= 1, y >= 0", "1 0"}, {"xy", "x + y <= 2, x >= 1, y >= 1", "1 1"}, {"xy", "3x + 7y <= 0, x >= 0, y >= 0", "0 0"},
		{"xy", "2x + 3y = 1, 5x - 7y = 3", "16/29 -1/29"}, {"xyz", "6x + 6y + 6z <= 35, x >= 1, 2y >= 5, 3z >= 7", "1 5/2 7/3"},
		{"xyz", "x + y + z >= 7, 2x <= 3, 4y <= 7, 4z <= 15", "3/2 7/4 15/4"},
		{"xy", "10x + 10y < 21, x >= 1, y > 1", "1 12/11"}, {"xy", "10x + 10y < 21, x > 1, y > 1", "12/11 112/111"},
		{"xy", "x - y < 0, x - y > -1, x > 5, 10x < 51", "56/11 6"}, {"xy", "y - x > 0, 100y - 101x < 0, x >= 3, 2x <= 7", "3 103/34"},
	})
	checkUnmet(t, []unmetRow{
		{"xy", "x + y < 2, x >= 1, y >= 1", "1 1 1"}, {"xy", "x + y <= 2, x > 1, y >= 1", "1 1 1"}, {"xy", "3x + 7y <= 0, x >= 0, y > 0", "1 3 7"},
		{"xyz", "6x + 6y + 6z <= 35, x >= 1, 2y > 5, 3z >= 7", "1 6 3 2"}, {"xyz", "6x + 6y + 6z <= 34, x >= 1, 2y >= 5, 3z >= 7", "1 6 3 2"},
	})
}

// Columns without a bound, with one, and such that no row names.
func TestStage12FreeColumns(t *testing.T) {
	checkMet(t, []metRow{
		{"", "", ""}, {"x", "", "0"}, {"wxyz", "", "0 0 0 0"}, {"xyz", "y >= 2", "0 2 0"}, {"xyz", "y < 0", "0 -1 0"}, {"xyz", "z = 7, 0 <= 0", "0 0 7"},
		{"xyz", "x - z >= 1", "0 0 -1"}, {"xyz", "x - z >= 1, z >= 0", "1 0 0"}, {"xyz", "x - z > 1, x <= 0", "0 0 -2"}, {"xyz", "x - z > 1, x < 0", "-1 0 -3"},
		{"wxyz", "w + x + y + z > 0, w - x + y - z > 0", "0 0 1 0"}, {"wxyz", "w + x + y + z > 0, w - x + y - z > 0, y <= 0", "1 0 0 0"},
	})
	checkUnmet(t, []unmetRow{
		{"wxyz", "w >= 0, x - z > 0, y >= 0, z - x >= 0", "0 1 0 1"}, {"wxyz", "w + z >= 0, x >= 0, 2y <= 1, y >= 1", "0 0 1 2"},
	})
}

// Rows with all Coefs "0": alone, beside rows that numbers meet, and beside others that none meet; with no columns and with some.
func TestStage12ZeroRows(t *testing.T) {
	for _, names := range []string{"", "x", "xyz"} {
		at := strings.Repeat("0 ", len(names))
		for _, good := range []string{"0 <= 1", "0 <= 0", "0 < 1", "0 < 7, 0 <= 0, 0 <= 5", "0 = 0"} {
			checkMet(t, []metRow{{names, good, at}})
			zeros := strings.Repeat(" 0 ", len(rowsOf(t, names, good)))
			for _, bad := range []string{"0 < 0", "0 <= -1", "0 < -1", "0 > 5", "0 >= 1"} {
				checkUnmet(t, []unmetRow{
					{names, bad, "1"}, {names, good + "," + bad, zeros + "1"}, {names, bad + "," + good, "1" + zeros}, {names, bad + "," + bad, "0 1"},
				})
			}
		}
	}
	checkUnmet(t, []unmetRow{
		{"x", "x <= 3, 0 < 0, x >= 2", "0 1 0"}, {"x", "x <= 1, 0 < 0, x >= 2", "0 1 0"}, {"x", "x <= 1, x >= 2, 0 < 0", "0 0 1"}, {"x", "0 < 0, x <= 1, x >= 2", "0 1 1"},
	})
	checkMet(t, []metRow{{"x", "x <= 3, 0 < 1, x >= 2", "2"}, {"xy", "0 <= 0, x - y <= -3, 0 < 2", "0 3"}})
}

// The same row twice and more often, and rows that are multiples of others.
func TestStage12TwinRows(t *testing.T) {
	checkMet(t, []metRow{
		{"x", "x >= 3, x >= 3", "3"}, {"x", "x > 3, x > 3, x > 3", "4"}, {"xy", "x + y >= 1, 2x + 2y >= 2, x + y >= 1", "0 1"}, {"xy", "x + y = 1, x + y = 1, x - y = 0", "1/2 1/2"},
	})
	checkUnmet(t, []unmetRow{
		{"x", "x <= 1, x <= 1, x >= 2, x >= 2", "0 1 0 1"}, {"x", "x <= 1, x >= 2, x <= 1, x >= 2", "0 0 1 1"}, {"x", "x >= 2, x <= 1, x <= 1, x >= 2", "0 0 1 1"},
		{"x", "2x <= 2, x <= 1, x >= 2, 3x >= 6", "0 3 0 1"}, {"x", "x <= 1, 2x <= 2, 3x >= 6, x >= 2", "0 1 0 2"},
		{"xy", "x + y <= 1, x >= 1, y >= 1, x + y <= 1, x >= 1, y >= 1", "0 0 0 1 1 1"}, {"xy", "x + y <= 1, x >= 1, x + y <= 1, y >= 1", "0 1 1 1"},
	})
}

// Where several cores are there, the first rows are left out first.
func TestStage12WhichCore(t *testing.T) {
	checkUnmet(t, []unmetRow{
		{"xy", "x <= 1, x >= 2, y <= 1, y >= 2", "0 0 1 1"}, {"xy", "y <= 1, x >= 2, x <= 1, y >= 2", "0 1 1 0"},
		{"xy", "x <= 1, y <= 1, y >= 2, x >= 2", "0 1 1 0"}, {"xy", "x <= 1, y <= 1, x >= 2, y >= 2", "0 1 0 1"},
		{"xy", "x + y <= 1, x >= 1, y >= 1, x <= 0", "0 1 0 1"}, {"xy", "x <= 0, x >= 1, y >= 1, x + y <= 1", "0 1 1 1"},
		{"xy", "x >= 1, x <= 0, x + y <= 1, y >= 1", "1 0 1 1"}, {"xy", "x >= 1, y >= 1, x + y <= 1, x <= 0, y <= 0", "0 1 0 0 1"},
		{"xyz", "x - y < 0, y - z < 0, z - x < 0, y - x < 0", "1 0 0 1"}, {"xyz", "y - x < 0, x - y < 0, y - z < 0, z - x < 0", "0 1 1 1"},
		{"x", "x <= 5, x <= 4, x <= 3, x >= 5, x >= 4, x >= 6", "0 0 1 0 0 1"}, {"x", "x >= 6, x >= 5, x <= 3, x >= 4, x <= 2", "0 0 0 1 1"},
	})
}

// All rows of four out of some: cores of every shape, with every row ahead and behind.
func TestStage12AllOfFour(t *testing.T) {
	pool := rowsOf(t, "xy", "x <= 0, x > 0, x + y <= 1, x - y >= 1, x + 2y > 2, y < 0, 2x - y <= -1, 0 < 0")
	met := 0
	for n := range 8 * 8 * 8 * 8 {
		a := checkIneqs(t, 2, []impl.LinRow{pool[n%8], pool[n/8%8], pool[n/64%8], pool[n/512]})
		met += oneOf(a.point.Ok)
	}
	if met < 300 || met > 3500 {
		t.Errorf("%d of 4096 are met", met)
	}
}

// Factors have no common divisor, with coefs that have one, and with long ones.
func TestStage12Factors(t *testing.T) {
	checkUnmet(t, []unmetRow{
		{"x", "6x <= 4, -9x <= -7", "3 2"}, {"x", "6x <= 4, -6x <= -5", "1 1"}, {"x", "6x <= 5, -2x <= -2, x <= 9", "1 3 0"},
		{"xy", "4x + 6y <= 1, -x <= 0, -9y <= -9", "3 12 2"}, {"xy", "100x - 100y <= 0, 10y - 10x <= -1", "1 10"},
		{"xyz", "2x - 3y <= 0, 5y - 7z <= 0, 11z - 13x <= 0, x < 0", "55 33 21 163"},
	})
	long, longer := tenTo(39), nines(40)
	checkAnswer(t, 1, []impl.LinRow{atMost("0", longer), below("0", minus(longer))}, linAnswer{core: []int{0, 1}, farkas: []string{"1", "1"}})
	checkAnswer(t, 1, []impl.LinRow{atMost("1", long), atMost(minus(longer), minus(longer))}, linAnswer{core: []int{0, 1}, farkas: []string{longer, long}})
	checkAnswer(t, 1, []impl.LinRow{atMost("1", longer), atMost("-1", minus(nines(20)))}, linAnswer{core: []int{0, 1}, farkas: []string{"1", "1" + strings.Repeat("0", 19) + "1"}})
}

// aheadOf is so many Coefs, all "0" but those of some columns.
func aheadOf(cols int, coefs map[int]string) []string {
	list := slices.Repeat([]string{"0"}, cols)
	for col, coef := range coefs {
		list[col] = coef
	}
	return list
}

// A chain of columns, each less than the one ahead over its scale, the first one below 1, all above 0: so each is 1 over one more than a
// multiple of what the one ahead is 1 over. The last column is the sum of all others.
func chainRows(scales []string) (cols int, rows []impl.LinRow, vals []*big.Rat) {
	cols = len(scales) + 1
	sum, upper := new(big.Rat), big.NewInt(1)
	less, more := aheadOf(cols, map[int]string{cols - 1: "1"}), aheadOf(cols, map[int]string{cols - 1: "-1"})
	for col, scale := range scales {
		rows = append(rows, below("0", aheadOf(cols, map[int]string{col: "-1"})...))
		if col == 0 {
			rows = append(rows, below("1", aheadOf(cols, map[int]string{col: scale})...))
		} else {
			rows = append(rows, below("0", aheadOf(cols, map[int]string{col: scale, col - 1: "-1"})...))
		}
		factor, _ := new(big.Int).SetString(scale, 10)
		upper.Add(upper.Mul(upper, factor), big.NewInt(1))
		vals = append(vals, new(big.Rat).SetFrac(big.NewInt(1), upper))
		sum.Add(sum, vals[col])
		less[col], more[col] = "-1", "1"
	}
	return cols, append(rows, atMost("0", less...), atMost("0", more...)), append(vals, sum)
}

// Numbers with parts of up to IntDigits digits are told; where one would have more, there are as many empty texts as columns.
func TestStage12LongNumbers(t *testing.T) {
	seen := map[int]int{}
	scales := append([]string{tenTo(34)}, slices.Repeat([]string{tenTo(39)}, 10)...)
	for last := 28; last < 32; last++ {
		scales[10] = "2" + strings.Repeat("0", last)
		cols, rows, vals := chainRows(scales)
		want := linAnswer{point: impl.Point{Ok: true}}
		for _, x := range vals {
			want.point.Vals = append(want.point.Vals, ratText(x))
		}
		size := len(vals[cols-1].Denom().String())
		seen[size]++
		if size > impl.IntDigits {
			want.point = impl.Point{Vals: make([]string, cols)}
		}
		checkAnswer(t, cols, rows, want)
		checkMirrored(t, cols, rows, want)
		for i := range rows {
			rows[i].Coefs = append(rows[i].Coefs, "0")
		}
		if want.point.Ok {
			want.point.Vals = append(want.point.Vals, "0")
		} else {
			want.point.Vals = make([]string, cols+1)
		}
		checkAnswer(t, cols+1, rows, want)
	}
	if seen[impl.IntDigits] != 1 || seen[impl.IntDigits+1] != 1 {
		t.Errorf("numbers of digits: %v", seen)
	}
	cols, rows, _ := chainRows(slices.Repeat([]string{tenTo(39)}, 19))
	checkAnswer(t, cols, rows, linAnswer{point: impl.Point{Vals: make([]string, cols)}})
	rows = append(rows, atMost("-1", aheadOf(cols, map[int]string{cols - 1: "1"})...))
	if core := impl.Infeasible(cols, rows); len(core) == 0 || impl.Feasible(cols, rows).Vals != nil {
		t.Errorf("%v: a sum of numbers above 0 that is below it", core)
	}
	checkFarkas(t, cols, rows, impl.Infeasible(cols, rows), impl.Farkas(cols, rows))
}

// checkMirrored turns the sign of each column: so the numbers turn theirs, and the rest is as it was.
func checkMirrored(t *testing.T, cols int, rows []impl.LinRow, want linAnswer) {
	t.Helper()
	turned, vals := copiedRows(rows), slices.Clone(want.point.Vals)
	for _, row := range turned {
		for col, coef := range row.Coefs {
			row.Coefs[col] = impl.IntSub("0", coef)
		}
	}
	for col, val := range vals {
		vals[col] = impl.RatMul("-1", val)
	}
	checkAnswer(t, cols, turned, linAnswer{impl.Point{Ok: want.point.Ok, Vals: vals}, want.core, want.farkas})
}

// checkSteps is for columns each of which is n more than the one ahead.
func checkSteps(t *testing.T, n string) {
	t.Helper()
	back := impl.IntSub("0", n)
	rows := []impl.LinRow{
		atMost(n, "1", "0", "0", "0"), atMost(back, "-1", "0", "0", "0"), atMost(n, "-1", "1", "0", "0"), atMost(back, "1", "-1", "0", "0"),
		atMost(n, "0", "-1", "1", "0"), atMost(back, "0", "1", "-1", "0"), atMost(n, "0", "0", "-1", "1"), atMost(back, "0", "0", "1", "-1"),
	}
	vals := []string{n, impl.IntMul("2", n), impl.IntMul("3", n), impl.IntMul("4", n)}
	checkAnswer(t, 4, rows, linAnswer{point: impl.Point{Ok: true, Vals: vals}})
	if n[0] == '-' {
		checkAnswer(t, 4, append(rows, below("0", "1", "0", "0", "-1")), linAnswer{core: []int{2, 4, 6, 8}, farkas: strings.Split("001010101", "")})
	} else {
		checkAnswer(t, 4, append(rows, below("0", "-1", "0", "0", "1")), linAnswer{core: []int{3, 5, 7, 8}, farkas: strings.Split("000101011", "")})
	}
}

// Numbers that do not fit into a machine word, and such that just do.
func TestStage12WideNumbers(t *testing.T) {
	for _, n := range []string{"4611686018427387903", "4611686018427387904", "4611686018427387905", "9223372036854775807", "9223372036854775808", "9223372036854775809", "18446744073709551615", "18446744073709551616", nines(40), tenTo(39)} {
		more := impl.IntAdd(n, "1")
		for _, sign := range []string{"", "-"} {
			checkAnswer(t, 1, []impl.LinRow{atMost(sign+n, "1"), atMost(impl.IntMul("-1", sign+n), "-1")}, linAnswer{point: impl.Point{Ok: true, Vals: []string{sign + n}}})
			rows := []impl.LinRow{atMost(sign+n, "1", "1"), atMost(sign+n, "1", "-1"), atMost(impl.IntMul("-1", sign+n), "-1", "0"), below("0", "0", "1")}
			checkAnswer(t, 2, rows, linAnswer{core: []int{1, 2, 3}, farkas: []string{"0", "1", "1", "1"}})
			checkIneqs(t, 2, rows)
			checkIneqs(t, 2, []impl.LinRow{atMost(sign+"1", sign+n, "1"), below("-3", "-1", "-7"), below(sign+n, "2", sign+n)})
		}
		checkSteps(t, n)
		checkSteps(t, minus(n))
		if len(more) > 40 {
			continue
		}
		checkAnswer(t, 1, []impl.LinRow{below("1", n), below("-1", minus(more))}, linAnswer{point: impl.Point{Ok: true, Vals: []string{"2/" + impl.IntAdd(n, more)}}})
		checkAnswer(t, 1, []impl.LinRow{atMost("1", more), atMost("-1", minus(n))}, linAnswer{core: []int{0, 1}, farkas: []string{n, more}})
	}
}

// stairRows are rows of two columns each: each column but the last is at most the next one less 1.
func stairRows(cols int) (rows []impl.LinRow) {
	for col := range cols - 1 {
		rows = append(rows, atMost("-1", aheadOf(cols, map[int]string{col: "1", col + 1: "-1"})...))
	}
	return rows
}

// Exactly so many rows, columns and digits as are allowed, and one more.
func TestStage12Limits(t *testing.T) {
	rows := stairRows(20)
	var vals []string
	for col := range 20 {
		vals = append(vals, impl.IntOf(uint64(col)))
	}
	checkAnswer(t, 20, rows, linAnswer{point: impl.Point{Ok: true, Vals: vals}})
	round := append(copiedRows(rows), below("19", aheadOf(20, map[int]string{0: "-1", 19: "1"})...))
	core := linAnswer{core: upTo(20), farkas: slices.Repeat([]string{"1"}, 20)}
	checkAnswer(t, 20, round, core)
	for len(round) < 50 {
		round = append(round, atMost(nines(40), slices.Repeat([]string{minus(nines(40))}, 20)...))
		core.farkas = append(core.farkas, "0")
	}
	checkAnswer(t, 20, round, core)
	checkAnswer(t, 20, append(round, round[0]), linAnswer{})
	checkAnswer(t, 21, stairRows(21), linAnswer{})
	checkAnswer(t, 21, nil, linAnswer{})
	checkAnswer(t, 20, nil, linAnswer{point: impl.Point{Ok: true, Vals: slices.Repeat([]string{"0"}, 20)}})
	checkAnswer(t, 0, slices.Repeat([]impl.LinRow{atMost("0")}, 50), linAnswer{point: impl.Point{Ok: true}})
	checkAnswer(t, 0, slices.Repeat([]impl.LinRow{atMost("0")}, 51), linAnswer{})
	long := []string{nines(40), minus(nines(40)), tenTo(39), minus(tenTo(39))}
	for _, s := range long {
		checkIneqs(t, 1, []impl.LinRow{atMost(s, "1")})
		checkIneqs(t, 1, []impl.LinRow{atMost("1", s), below("-3", "0")})
		checkIneqs(t, 2, []impl.LinRow{atMost(s, s, "1"), below("7", "-3", s), atMost(s, s, s)})
		for _, longer := range []string{s + "0", s + "9"} {
			checkAnswer(t, 1, []impl.LinRow{atMost(longer, "1")}, linAnswer{})
			checkAnswer(t, 1, []impl.LinRow{atMost("1", longer)}, linAnswer{})
			checkAnswer(t, 2, []impl.LinRow{atMost("1", "1", "1"), atMost("-2", "-1", longer)}, linAnswer{})
		}
	}
}

// Wrong inputs: all answers are zero.
func TestStage12Wrong(t *testing.T) {
	good := rowsOf(t, "xy", "x + y <= 1, x - y < 0")
	for _, cols := range []int{-1, -2, -1 << 63, 0, 1, 3, 4, 21, 1<<63 - 1} {
		checkAnswer(t, cols, good, linAnswer{})
		checkMeets(t, cols, good, []string{"0", "1"})
		checkMeets(t, cols, good, make([]string, max(0, min(cols, 30))))
	}
	for _, cols := range []int{-1, -1 << 63, 21, 1 << 40} {
		checkAnswer(t, cols, nil, linAnswer{})
		checkMeets(t, cols, nil, nil)
	}
	for _, coefs := range [][]string{nil, {"1"}, {"1", "2", "3"}, {"0", "0", "0"}} {
		for at := range 3 {
			checkAnswer(t, 2, slices.Insert(slices.Clone(good), at, atMost("5", coefs...)), linAnswer{})
			checkMeets(t, 2, slices.Insert(slices.Clone(good), at, atMost("5", coefs...)), []string{"0", "1"})
		}
	}
	for _, text := range append(noInts(), "1/2", "-1/2", "2/4", "3/1", nines(41), "x") {
		for _, row := range []impl.LinRow{atMost(text, "0", "0"), below("5", text, "0"), atMost("5", "0", text)} {
			checkAnswer(t, 2, []impl.LinRow{row}, linAnswer{})
			checkAnswer(t, 2, append(slices.Clone(good), row), linAnswer{})
			checkMeets(t, 2, []impl.LinRow{row}, []string{"0", "0"})
		}
	}
}

// Meets: numbers that meet the rows, such that do not, other numbers of them, and texts that are none.
func TestStage12Meets(t *testing.T) {
	rows := rowsOf(t, "xy", "2x + 3y <= 4, x - y < 1, x >= 0")
	for _, x := range []string{"0", "1", "-1", "1/2", "-1/2", "2", "7/5", "3/2", "-1/3"} {
		for _, y := range []string{"0", "1", "-1", "1/2", "-1/2", "2/5", "4/3", "5/3", "1/3", "-1/3"} {
			for n := range rows {
				checkMeets(t, 2, rows[n:], []string{x, y})
			}
		}
	}
	for vals, want := range map[string]bool{
		"0 4/3": true, "0 5/3": false, "7/5 2/5": false, "1 1/3": true, "1 0": false, "0 0": true, "-1/9 0": false, "1/2 1": true, "1/2 -1/2": false, "1/2 -1/3": true,
		"0": false, "0 0 0": false, "": false, "0 2/4": false, "0/1 0": false, "0.5 0": false, "0 -0": false,
	} {
		if impl.Meets(2, rows, strings.Fields(vals)) != want {
			t.Errorf("Meets of %s is not %t", vals, want)
		}
		checkMeets(t, 2, rows, strings.Fields(vals))
	}
	for _, text := range noRats() {
		for _, vals := range [][]string{{text, "0"}, {"0", text}, {text, text}} {
			if checkMeets(t, 2, rows, vals) || checkMeets(t, 2, nil, vals) {
				t.Errorf("%q is a number", text)
			}
		}
	}
	long := []string{nines(2500), "-1/" + nines(2500), tenTo(2499) + "/" + nines(2500), minus(nines(2500)) + "/" + tenTo(2499)}
	for _, x := range long {
		for _, y := range long {
			checkMeets(t, 2, rows, []string{x, y})
			checkMeets(t, 2, rowsOf(t, "xy", "x - y <= 0"), []string{x, y})
			checkMeets(t, 2, rowsOf(t, "xy", "x - y < 0, x + y <= 0"), []string{x, y})
		}
	}
	if !impl.Meets(0, nil, nil) || !impl.Meets(0, []impl.LinRow{atMost("0")}, nil) || impl.Meets(0, []impl.LinRow{below("0")}, nil) || impl.Meets(0, nil, []string{"0"}) {
		t.Error("no columns")
	}
}
