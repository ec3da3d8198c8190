package tests

import (
	"math/big"
	"math/rand"
	"slices"
	"strings"
	"testing"

	"loop.example/g00007/impl"
)

// checkFarkas is what the promise says of rows that no numbers meet: the factors, none below 0 and those of the core above it, add the
// rows up to no column and to a number below 0, or to 0 with a Strict row.
func checkFarkas(t *testing.T, cols int, rows []impl.LinRow, core []int, farkas []string) {
	t.Helper()
	if len(farkas) != len(rows) {
		t.Fatalf("%d %v: %d factors", cols, rows, len(farkas))
	}
	sum := plainIneq{coefs: zeros(cols), bound: new(big.Rat)}
	common := new(big.Int)
	for i, x := range plainIneqs(t, rows) {
		factor := ratOf(t, farkas[i])
		if factor.Sign() < 0 || !impl.IsInt(farkas[i]) || (factor.Sign() > 0) != slices.Contains(core, i) {
			t.Fatalf("%d %v: core %v, factors %v", cols, rows, core, farkas)
		}
		common.GCD(nil, nil, common, factor.Num())
		sum.strict = sum.strict || x.strict && factor.Sign() > 0
		sum.bound.Add(sum.bound, x.bound.Mul(x.bound, factor))
		for col, coef := range x.coefs {
			sum.coefs[col].Add(sum.coefs[col], coef.Mul(coef, factor))
		}
	}
	if slices.ContainsFunc(sum.coefs, func(x *big.Rat) bool { return x.Sign() != 0 }) {
		t.Fatalf("%d %v: factors %v leave a column", cols, rows, farkas)
	}
	if sum.bound.Sign() > 0 || sum.bound.Sign() == 0 && !sum.strict || common.String() != "1" {
		t.Fatalf("%d %v: factors %v add up to %s, strict %t, common divisor %s", cols, rows, farkas, sum.bound, sum.strict, common)
	}
}

// mustBeUnmet is for rows that no numbers meet, as their factors show.
func mustBeUnmet(t *testing.T, cols int, rows []impl.LinRow) {
	t.Helper()
	if p := impl.Feasible(cols, rows); p.Ok || len(p.Vals) > 0 {
		t.Fatalf("%d %v: met by %v", cols, rows, p.Vals)
	}
	checkFarkas(t, cols, rows, impl.Infeasible(cols, rows), impl.Farkas(cols, rows))
}

// equals are the rows for a column that is p / q.
func equals(cols, col int, p, q *big.Int) []impl.LinRow {
	minusP, minusQ := new(big.Int).Neg(p).String(), new(big.Int).Neg(q).String()
	return []impl.LinRow{
		atMost(p.String(), aheadOf(cols, map[int]string{col: q.String()})...), atMost(minusP, aheadOf(cols, map[int]string{col: minusQ})...),
	}
}

// checkFirst: no numbers that meet the rows are simpler in their first column. What can be there has no gaps: so of each lesser q the two
// numbers next to what is told are asked for, and of its own q the next one on the way to 0; of a number below 0 its opposite, too.
func checkFirst(t *testing.T, cols int, rows []impl.LinRow, val string) {
	t.Helper()
	at := ratOf(t, val)
	refuse := func(p, q *big.Int) {
		if fixed := slices.Concat(rows, equals(cols, 0, p, q)); impl.GoodRows(cols, fixed) {
			mustBeUnmet(t, cols, fixed)
		}
	}
	one := big.NewInt(1)
	for q := int64(1); q <= 12 && at.Denom().Cmp(big.NewInt(q)) > 0; q++ {
		p := new(big.Int).Div(new(big.Int).Mul(at.Num(), big.NewInt(q)), at.Denom())
		refuse(p, big.NewInt(q))
		refuse(new(big.Int).Add(p, one), big.NewInt(q))
	}
	if at.Sign() != 0 {
		nearer := new(big.Int).Sub(at.Num(), big.NewInt(int64(at.Sign())))
		refuse(nearer, at.Denom())
	}
	if at.Sign() < 0 {
		refuse(new(big.Int).Neg(at.Num()), at.Denom())
	}
}

// checkRightRows is promise 11, for any good rows: either numbers meet them, or they add up to a contradiction, and each row of the core
// is needed for that.
func checkRightRows(t *testing.T, cols int, rows []impl.LinRow) (isMet bool) {
	t.Helper()
	p, core, farkas := impl.Feasible(cols, rows), impl.Infeasible(cols, rows), impl.Farkas(cols, rows)
	if !p.Ok && len(p.Vals) == 0 && len(core) > 0 {
		checkFarkas(t, cols, rows, core, farkas)
		var some []impl.LinRow
		for _, i := range core {
			some = append(some, rows[i])
		}
		for i := range some {
			fewer := slices.Delete(slices.Clone(some), i, i+1)
			if p := impl.Feasible(cols, fewer); !p.Ok || !checkMeets(t, cols, fewer, p.Vals) {
				t.Fatalf("%d %v: %v is no core", cols, rows, core)
			}
		}
		return false
	}
	if !p.Ok || len(core) > 0 || len(farkas) > 0 || !checkMeets(t, cols, rows, p.Vals) {
		t.Fatalf("%d %v: Feasible %v, Infeasible %v, Farkas %v", cols, rows, p, core, farkas)
	}
	if cols > 0 {
		checkFirst(t, cols, rows, p.Vals[0])
	}
	return true
}

// drawRows draws rows; where at is not nil they are met there, many of them just so.
func drawRows(r *rand.Rand, cols, n, size, dense int, at []int) []impl.LinRow {
	rows := make([]impl.LinRow, n)
	for i := range rows {
		sum := 0
		for col := range cols {
			coef := 0
			if r.Intn(10) < dense {
				coef = r.Intn(2*size+1) - size
			}
			rows[i].Coefs = append(rows[i].Coefs, big.NewInt(int64(coef)).String())
			if at != nil {
				sum += coef * at[col]
			}
		}
		rows[i].Strict = r.Intn(2) == 0
		if at == nil {
			sum = r.Intn(2*size+1) - size
		} else {
			sum += oneOf(rows[i].Strict) + r.Intn(3)*r.Intn(2)
		}
		rows[i].Bound = big.NewInt(int64(sum)).String()
	}
	return rows
}

func drawLongRows(r *rand.Rand, cols, n int) []impl.LinRow {
	rows := drawRows(r, cols, n, 1, 10, nil)
	for i := range rows {
		for col := range rows[i].Coefs {
			rows[i].Coefs[col] = drawInt(r, 40)
		}
		rows[i].Bound = drawInt(r, 40)
	}
	return rows
}

func drawAt(r *rand.Rand, cols, size int) []int {
	at := make([]int, cols)
	for col := range at {
		at[col] = r.Intn(2*size+1) - size
	}
	return at
}

// Few rows of few columns, drawn: all answers are those of the second reading.
func TestStage12DrawnFew(t *testing.T) {
	r := rand.New(rand.NewSource(121))
	var met [2]int
	for n := range 12000 {
		cols := r.Intn(4)
		size := []int{1, 3, 12}[n%3]
		at := drawAt(r, cols, size)
		if n%2 == 0 {
			at = nil
		}
		rows := drawRows(r, cols, r.Intn(7), size, 4+r.Intn(7), at)
		a := checkIneqs(t, cols, rows)
		met[oneOf(a.point.Ok)]++
		if n%4 == 0 {
			checkRightRows(t, cols, rows)
		}
		for range 3 {
			vals := make([]string, cols)
			for col := range vals {
				vals[col] = drawRat(r, 1)
			}
			checkMeets(t, cols, rows, vals)
		}
	}
	if min(met[0], met[1]) < 2000 {
		t.Errorf("not met and met: %v", met)
	}
}

// Long numbers in few rows.
func TestStage12DrawnLong(t *testing.T) {
	r := rand.New(rand.NewSource(122))
	var met [2]int
	for range 1500 {
		cols := 1 + r.Intn(3)
		rows := drawLongRows(r, cols, 1+r.Intn(5))
		a := checkIneqs(t, cols, rows)
		met[oneOf(a.point.Ok)]++
		checkRightRows(t, cols, rows)
	}
	if min(met[0], met[1]) < 100 {
		t.Errorf("not met and met: %v", met)
	}
}

// Many rows of many columns, up to all that there may be: the promise. Small numbers and bounds at 0 make many rows that meet in one point.
func TestStage12DrawnMany(t *testing.T) {
	r := rand.New(rand.NewSource(123))
	var met [2]int
	for n := range 240 {
		cols, many, dense := 4+r.Intn(9), 5+r.Intn(26), 1+r.Intn(5)
		if n%20 < 2 {
			cols, many, dense = 20, 48, 1+r.Intn(2)
		}
		at := drawAt(r, cols, 2)
		if n%2 == 0 {
			at = nil
		}
		rows := drawRows(r, cols, many, 1+n%3*r.Intn(4), dense, at)
		if n%5 == 0 {
			for i := range rows {
				rows[i].Bound = "0"
			}
		}
		met[oneOf(checkRightRows(t, cols, rows))]++
	}
	if min(met[0], met[1]) < 40 {
		t.Errorf("not met and met: %v", met)
	}
}

// Equations that hold all columns at fractions, and the same with one row more that leaves that point out.
func TestStage12DrawnPoints(t *testing.T) {
	r := rand.New(rand.NewSource(124))
	for range 300 {
		cols := 1 + r.Intn(4)
		var rows []impl.LinRow
		for _, row := range drawRows(r, cols, cols, 9, 10, nil) {
			row.Strict = false
			back := atMost(impl.IntSub("0", row.Bound))
			for _, coef := range row.Coefs {
				back.Coefs = append(back.Coefs, impl.IntSub("0", coef))
			}
			rows = append(rows, row, back)
		}
		a := checkIneqs(t, cols, rows)
		if !a.point.Ok {
			continue
		}
		den := ratOf(t, a.point.Vals[0]).Denom().String()
		num := ratOf(t, a.point.Vals[0]).Num().String()
		checkIneqs(t, cols, append(slices.Clone(rows), atMost(num, aheadOf(cols, map[int]string{0: den})...)))
		if lo, hi := rangeOf(plainIneqs(t, rows), 0); lo.Has && lo == hi {
			out := checkIneqs(t, cols, append(slices.Clone(rows), below(num, aheadOf(cols, map[int]string{0: den})...)))
			if out.point.Ok {
				t.Fatalf("%v", rows)
			}
		}
	}
}

// Rows whose answers are known at any size: chains of columns up to all of MaxCols, each column held at one number by many rows.
func TestStage12Chains(t *testing.T) {
	for cols := 2; cols <= 20; cols++ {
		rows := stairRows(cols)
		var vals []string
		for col := range cols {
			vals = append(vals, impl.IntOf(uint64(col)))
		}
		for col := range cols {
			rows = append(rows, atMost(vals[col], aheadOf(cols, map[int]string{col: "1"})...))
		}
		checkAnswer(t, cols, rows, linAnswer{point: impl.Point{Ok: true, Vals: vals}})
		last := atMost("0", aheadOf(cols, map[int]string{0: "-1", cols - 1: "1"})...)
		want := linAnswer{core: append(upTo(cols-1), len(rows)), farkas: strings.Fields(strings.Repeat("1 ", cols-1) + strings.Repeat("0 ", len(rows)-cols+1) + "1")}
		checkAnswer(t, cols, append(rows, last), want)
	}
}
