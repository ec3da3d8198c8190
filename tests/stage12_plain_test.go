package tests

import (
	"math/big"
	"slices"
	"strings"
	"testing"

	"loop.example/g00007/impl"
)

// The signatures, the types and the limits that the document gives: a change of one is no longer built.
var (
	_ func(int, []impl.LinRow) bool           = impl.GoodRows
	_ func(int, []impl.LinRow, []string) bool = impl.Meets
	_ func(int, []impl.LinRow) impl.Point     = impl.Feasible
	_ func(int, []impl.LinRow) []int          = impl.Infeasible
	_ func(int, []impl.LinRow) []string       = impl.Farkas
	_                                         = struct {
		Coefs  []string
		Strict bool
		Bound  string
	}(impl.LinRow{})
	_ = struct {
		Ok   bool
		Vals []string
	}(impl.Point{})
	_ = [1]int{}[impl.MaxRows-50] + [1]int{}[impl.MaxCols-20] + [1]int{}[impl.RowDigits-40]
)

// A plainIneq is a row of numbers, and how often each of the rows from which it was added up is in it.
type plainIneq struct {
	coefs  []*big.Rat
	strict bool
	bound  *big.Rat
	often  []*big.Rat
}

func isRowInt(s string) bool {
	return impl.IsInt(s) && len(strings.TrimPrefix(s, "-")) <= 40
}

func arePlainRows(cols int, rows []impl.LinRow) bool {
	for _, row := range rows {
		if len(row.Coefs) != cols || !isRowInt(row.Bound) || slices.ContainsFunc(row.Coefs, func(s string) bool { return !isRowInt(s) }) {
			return false
		}
	}
	return cols >= 0 && cols <= 20 && len(rows) <= 50
}

func zeros(n int) []*big.Rat {
	list := make([]*big.Rat, n)
	for i := range list {
		list[i] = new(big.Rat)
	}
	return list
}

func plainIneqs(t *testing.T, rows []impl.LinRow) []plainIneq {
	t.Helper()
	var list []plainIneq
	for i, row := range rows {
		x := plainIneq{strict: row.Strict, bound: ratOf(t, row.Bound), often: zeros(len(rows))}
		for _, c := range row.Coefs {
			x.coefs = append(x.coefs, ratOf(t, c))
		}
		x.often[i].SetInt64(1)
		list = append(list, x)
	}
	return list
}

// sumOfTwo is a times x and b times y; a and b are above 0.
func sumOfTwo(a *big.Rat, x plainIneq, b *big.Rat, y plainIneq) plainIneq {
	mix := func(p, q *big.Rat) *big.Rat {
		p, q = new(big.Rat).Mul(a, p), new(big.Rat).Mul(b, q)
		return p.Add(p, q)
	}
	sum := plainIneq{strict: x.strict || y.strict, bound: mix(x.bound, y.bound)}
	for i := range x.coefs {
		sum.coefs = append(sum.coefs, mix(x.coefs[i], y.coefs[i]))
	}
	for i := range x.often {
		sum.often = append(sum.often, mix(x.often[i], y.often[i]))
	}
	return sum
}

// without leaves a column out: what the others can be beside it is said by the rows without it, and by each of its upper bounds with
// each of its lower ones.
func without(list []plainIneq, col int) []plainIneq {
	var rest []plainIneq
	for _, x := range list {
		if x.coefs[col].Sign() == 0 {
			rest = append(rest, x)
		}
		for _, y := range list {
			if x.coefs[col].Sign() > 0 && y.coefs[col].Sign() < 0 {
				rest = append(rest, sumOfTwo(new(big.Rat).Neg(y.coefs[col]), x, x.coefs[col], y))
			}
		}
	}
	return withoutWeaker(rest)
}

// withoutWeaker leaves out rows that another one says as well, with one multiple of the coefs: else there would soon be too many.
func withoutWeaker(list []plainIneq) []plainIneq {
	best := map[string]int{}
	var kept []plainIneq
	for _, x := range list {
		size := big.NewRat(1, 1)
		if i := slices.IndexFunc(x.coefs, func(c *big.Rat) bool { return c.Sign() != 0 }); i >= 0 {
			size.Inv(size.Abs(x.coefs[i]))
		}
		var look strings.Builder
		for _, c := range x.coefs {
			look.WriteString(new(big.Rat).Mul(c, size).RatString() + " ")
		}
		x = sumOfTwo(size, x, new(big.Rat), x)
		n, isThere := best[look.String()]
		if !isThere {
			best[look.String()] = len(kept)
			kept = append(kept, x)
		} else if order := x.bound.Cmp(kept[n].bound); order < 0 || order == 0 && x.strict {
			kept[n] = x
		}
	}
	return kept
}

// contradictory gives a row without columns that cannot be.
func contradictory(list []plainIneq) *plainIneq {
	if len(list) > 0 {
		for col := range list[0].coefs {
			list = without(list, col)
		}
	}
	for _, x := range list {
		if x.bound.Sign() < 0 || x.bound.Sign() == 0 && x.strict {
			return &x
		}
	}
	return nil
}

func isMetPlain(list []plainIneq, vals []*big.Rat) bool {
	for _, x := range list {
		sum := new(big.Rat)
		for i, c := range x.coefs {
			sum.Add(sum, new(big.Rat).Mul(c, vals[i]))
		}
		if order := sum.Cmp(x.bound); order > 0 || order == 0 && x.strict {
			return false
		}
	}
	return true
}

// rangeOf is between what a column can be, the others being anything.
func rangeOf(list []plainIneq, col int) (lo, hi impl.Bound) {
	if len(list) == 0 {
		return lo, hi
	}
	for other := range list[0].coefs {
		if other != col {
			list = without(list, other)
		}
	}
	for _, x := range list {
		sign := x.coefs[col].Sign()
		if sign == 0 {
			continue
		}
		at := impl.Bound{Has: true, Open: x.strict, At: ratText(new(big.Rat).Quo(x.bound, x.coefs[col]))}
		if sign > 0 && (!hi.Has || impl.RatCmp(at.At, hi.At) < 0 || at.At == hi.At && at.Open) {
			hi = at
		}
		if sign < 0 && (!lo.Has || impl.RatCmp(at.At, lo.At) > 0 || at.At == lo.At && at.Open) {
			lo = at
		}
	}
	return lo, hi
}

// putIn is for a column that is a number.
func putIn(list []plainIneq, col int, at *big.Rat) []plainIneq {
	var out []plainIneq
	for _, x := range list {
		x.coefs = slices.Clone(x.coefs)
		x.bound = new(big.Rat).Sub(x.bound, new(big.Rat).Mul(x.coefs[col], at))
		x.coefs[col] = new(big.Rat)
		out = append(out, x)
	}
	return out
}

// plainPoint is for rows that numbers meet.
func plainPoint(t *testing.T, cols int, list []plainIneq) impl.Point {
	t.Helper()
	vals := make([]string, cols)
	for col := range vals {
		vals[col] = impl.Simplest(rangeOf(list, col))
		if vals[col] == "" {
			return impl.Point{Vals: make([]string, cols)}
		}
		list = putIn(list, col, ratOf(t, vals[col]))
	}
	return impl.Point{Ok: true, Vals: vals}
}

// plainCoreOf leaves out one row after the other, as the chapter has it, and adds up those that are left.
func plainCoreOf(list []plainIneq) (core []int, farkas []string) {
	left := upTo(len(list))
	at := func(numbers []int) (some []plainIneq) {
		for _, n := range numbers {
			some = append(some, list[n])
		}
		return some
	}
	for n := range list {
		others := slices.DeleteFunc(slices.Clone(left), func(m int) bool { return m == n })
		if contradictory(at(others)) != nil {
			left = others
		}
	}
	return left, leastWhole(contradictory(at(left)).often)
}

// leastWhole multiplies numbers so that they are whole and have no common divisor.
func leastWhole(list []*big.Rat) []string {
	most, common := big.NewInt(1), new(big.Int)
	for _, x := range list {
		most.Mul(most, x.Denom())
	}
	var whole []*big.Int
	for _, x := range list {
		n := new(big.Int).Div(new(big.Int).Mul(x.Num(), most), x.Denom())
		whole = append(whole, n)
		common.GCD(nil, nil, common, n)
	}
	var texts []string
	for _, n := range whole {
		texts = append(texts, new(big.Int).Div(n, common).String())
	}
	return texts
}

func copiedRows(rows []impl.LinRow) []impl.LinRow {
	out := slices.Clone(rows)
	for i := range out {
		out[i].Coefs = slices.Clone(out[i].Coefs)
	}
	return out
}

func sameRows(a, b []impl.LinRow) bool {
	return slices.EqualFunc(a, b, func(x, y impl.LinRow) bool {
		return slices.Equal(x.Coefs, y.Coefs) && x.Strict == y.Strict && x.Bound == y.Bound
	})
}

// A linAnswer is what the three questions about rows are answered.
type linAnswer struct {
	point  impl.Point
	core   []int
	farkas []string
}

func plainAnswer(t *testing.T, cols int, rows []impl.LinRow) (a linAnswer) {
	t.Helper()
	if !arePlainRows(cols, rows) {
		return a
	}
	list := plainIneqs(t, rows)
	if contradictory(list) == nil {
		a.point = plainPoint(t, cols, list)
		return a
	}
	a.core, a.farkas = plainCoreOf(list)
	return a
}

// checkIneqs holds all answers against the second reading of the chapter.
func checkIneqs(t *testing.T, cols int, rows []impl.LinRow) linAnswer {
	t.Helper()
	want := plainAnswer(t, cols, rows)
	checkAnswer(t, cols, rows, want)
	return want
}

// checkAnswer asks twice for what is known to be right, writes into the answers, and looks whether what was handed in is as before.
func checkAnswer(t *testing.T, cols int, rows []impl.LinRow, want linAnswer) {
	t.Helper()
	kept := copiedRows(rows)
	if impl.GoodRows(cols, rows) != arePlainRows(cols, rows) {
		t.Fatalf("%d %v: GoodRows %t", cols, rows, impl.GoodRows(cols, rows))
	}
	var points [2]impl.Point
	var cores [2][]int
	var farkas [2][]string
	for i := range 2 {
		points[i], cores[i], farkas[i] = impl.Feasible(cols, rows), impl.Infeasible(cols, rows), impl.Farkas(cols, rows)
	}
	for i := range 2 {
		if points[i].Ok != want.point.Ok || !slices.Equal(points[i].Vals, want.point.Vals) {
			t.Fatalf("%d %v: Feasible %v, want %v", cols, rows, points[i], want.point)
		}
		if !slices.Equal(cores[i], want.core) || !slices.Equal(farkas[i], want.farkas) {
			t.Fatalf("%d %v: Infeasible %v, Farkas %v, want %v, %v", cols, rows, cores[i], farkas[i], want.core, want.farkas)
		}
		overwrite(cores[i])
		for _, texts := range [][]string{points[i].Vals, farkas[i]} {
			for k := range texts {
				texts[k] = "overwritten"
			}
		}
	}
	if want.point.Ok {
		checkMeets(t, cols, rows, want.point.Vals)
	}
	if !sameRows(rows, kept) {
		t.Fatal("what was handed in is changed, or an answer shares memory with it")
	}
}

// checkMeets holds Meets against the sums of the library's numbers.
func checkMeets(t *testing.T, cols int, rows []impl.LinRow, vals []string) bool {
	t.Helper()
	want := arePlainRows(cols, rows) && len(vals) == cols && !slices.ContainsFunc(vals, func(s string) bool { return !impl.IsRat(s) })
	if want {
		var numbers []*big.Rat
		for _, s := range vals {
			numbers = append(numbers, ratOf(t, s))
		}
		want = isMetPlain(plainIneqs(t, rows), numbers)
	}
	kept, keptRows := slices.Clone(vals), copiedRows(rows)
	if got := impl.Meets(cols, rows, vals); got != want {
		t.Fatalf("%d %v: Meets of %v is %t", cols, rows, vals, got)
	}
	if !slices.Equal(vals, kept) || !sameRows(rows, keptRows) {
		t.Fatal("what was handed in is changed")
	}
	return want
}
