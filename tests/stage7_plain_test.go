package tests

import (
	"math/big"
	"reflect"
	"slices"
	"strconv"
	"strings"
	"testing"

	"loop.example/g00007/impl"
)

// The signatures and types that the document gives: a change of one is no longer built.
var (
	_ func(impl.Bank, impl.Model) bool        = impl.GoodModel
	_ func(impl.Bank, impl.Model) []string    = impl.Eval
	_ func(impl.Bank, impl.Model, []int) bool = impl.Holds
	_                                         = struct{ Interps []impl.Interp }(impl.Model{})
	_                                         = struct {
		Name string
		Rows []impl.Row
		Rest string
	}(impl.Interp{})
	_ = struct {
		Args []string
		Val  string
	}(impl.Row{})
)

// isPlainModel is what the chapter says of a good model, a second time.
func isPlainModel(b impl.Bank, m impl.Model) bool {
	if !impl.GoodBank(b) || len(m.Interps) != len(b.Funs) {
		return false
	}
	for i, f := range b.Funs {
		if !isPlainInterp(b.Sorts, f, m.Interps[i]) {
			return false
		}
	}
	return true
}

func isPlainInterp(own []string, f impl.Fun, in impl.Interp) bool {
	if in.Name != f.Name || !isPlainValue(own, f.Sort, in.Rest) || len(in.Rows) > 200 || len(f.Args) == 0 && len(in.Rows) > 0 {
		return false
	}
	for i, row := range in.Rows {
		if len(row.Args) != len(f.Args) || !isPlainValue(own, f.Sort, row.Val) || row.Val == in.Rest {
			return false
		}
		for j, arg := range row.Args {
			if !isPlainValue(own, f.Args[j], arg) {
				return false
			}
		}
		if i > 0 && !ascend(in.Rows[i-1].Args, row.Args) {
			return false
		}
	}
	return true
}

// ascend is for rows of values; a function has no arguments but numbers, words and elements.
func ascend(a, b []string) bool {
	for i := range a {
		if order := plainNumberOf(a[i]).Cmp(plainNumberOf(b[i])); order != 0 {
			return order < 0
		}
	}
	return false
}

// plainEval is the chapter a second time: on texts, and on the library's numbers.
func plainEval(b impl.Bank, m impl.Model) []string {
	if !isPlainModel(b, m) {
		return nil
	}
	var values []string
	for _, x := range b.Terms {
		var kids, sorts []string
		for _, kid := range x.Kids {
			kids = append(kids, values[kid])
			sorts = append(sorts, b.Terms[kid].Sort)
		}
		switch {
		case slices.Contains(kids, ""):
			values = append(values, "")
		case x.Op <= impl.OpDistinct:
			values = append(values, plainLogic(x.Op, kids))
		case x.Op == impl.OpApp:
			values = append(values, plainCall(b, m, x.Text, kids))
		case x.Op <= impl.OpToReal:
			values = append(values, plainCount(x, kids))
		case x.Op <= impl.OpSext:
			values = append(values, plainDigits(x, kids))
		case x.Op == impl.OpSelect:
			values = append(values, plainGet(b.Sorts, sorts[0], kids[0], kids[1]))
		case x.Op == impl.OpStore:
			values = append(values, plainPut(b.Sorts, sorts[0], kids[0], kids[1], kids[2]))
		}
	}
	return values
}

func plainLogic(op int, kids []string) string {
	count := map[string]int{}
	for _, kid := range kids {
		count[kid]++
	}
	holds := false
	switch op {
	case impl.OpTrue:
		holds = true
	case impl.OpNot:
		holds = kids[0] == "false"
	case impl.OpAnd:
		holds = count["false"] == 0
	case impl.OpOr:
		holds = count["true"] > 0
	case impl.OpXor:
		holds = kids[0] != kids[1]
	case impl.OpImplies:
		holds = kids[0] == "false" || kids[1] == "true"
	case impl.OpIte:
		return map[string]string{"true": kids[1], "false": kids[2]}[kids[0]]
	case impl.OpEq:
		holds = kids[0] == kids[1]
	case impl.OpDistinct:
		holds = len(count) == len(kids)
	}
	return strconv.FormatBool(holds)
}

func plainCall(b impl.Bank, m impl.Model, name string, args []string) string {
	in := m.Interps[slices.IndexFunc(b.Funs, func(f impl.Fun) bool { return f.Name == name })]
	for _, row := range in.Rows {
		if slices.Equal(row.Args, args) {
			return row.Val
		}
	}
	return in.Rest
}

func plainCount(x impl.Term, kids []string) string {
	var n []*big.Rat
	for _, kid := range kids {
		n = append(n, plainNumberOf(kid))
	}
	sum := new(big.Rat)
	switch x.Op {
	case impl.OpNum:
		return x.Text
	case impl.OpAdd:
		for _, one := range n {
			sum.Add(sum, one)
		}
	case impl.OpSub:
		sum.Sub(n[0], n[1])
	case impl.OpNeg:
		sum.Neg(n[0])
	case impl.OpMul:
		sum.Mul(n[0], n[1])
	case impl.OpDiv: // the library's own division is that of the document: the rest is never below 0
		sum.SetInt(new(big.Int).Div(n[0].Num(), n[1].Num()))
	case impl.OpMod:
		sum.SetInt(new(big.Int).Mod(n[0].Num(), n[1].Num()))
	case impl.OpToReal:
		return kids[0]
	case impl.OpLe:
		return strconv.FormatBool(n[0].Cmp(n[1]) <= 0)
	case impl.OpLt:
		return strconv.FormatBool(n[0].Cmp(n[1]) < 0)
	case impl.OpGe:
		return strconv.FormatBool(n[0].Cmp(n[1]) >= 0)
	case impl.OpGt:
		return strconv.FormatBool(n[0].Cmp(n[1]) > 0)
	}
	return ratText(sum)
}

func plainDigits(x impl.Term, kids []string) string {
	var digits []string
	var numbers []uint64
	for _, kid := range kids {
		digits = append(digits, kid[2:])
		n, _ := strconv.ParseUint(kid[2:], 2, 64)
		numbers = append(numbers, n)
	}
	switch x.Op {
	case impl.OpBits:
		return "#b" + x.Text
	case impl.OpConcat:
		return "#b" + digits[0] + digits[1]
	case impl.OpExtract:
		w := len(digits[0])
		return "#b" + digits[0][w-1-x.A:w-x.B]
	case impl.OpZext:
		return "#b" + strings.Repeat("0", x.A) + digits[0]
	case impl.OpSext:
		return "#b" + strings.Repeat(digits[0][:1], x.A) + digits[0]
	case impl.OpBvNot, impl.OpBvNeg:
		numbers = append(numbers, 0)
	}
	w := len(digits[0])
	n := plainBits(x.Op, w, numbers[0], numbers[1])
	if x.Op >= impl.OpBvUlt {
		return strconv.FormatBool(n == 1)
	}
	return wordText(w, n)
}

// copiedModel is a model of its own memory, with nil for each empty list.
func copiedModel(m impl.Model) impl.Model {
	var c impl.Model
	for _, in := range m.Interps {
		rows := in.Rows
		in.Rows = nil
		for _, row := range rows {
			row.Args = append([]string(nil), row.Args...)
			in.Rows = append(in.Rows, row)
		}
		c.Interps = append(c.Interps, in)
	}
	return c
}

// checkEval holds all that the chapter says of a bank and a model against the second reading; what is handed in is as before.
func checkEval(t *testing.T, b impl.Bank, m impl.Model) []string {
	t.Helper()
	bank, model := copied(b), copiedModel(m)
	good, want := isPlainModel(b, m), plainEval(b, m)
	got := impl.Eval(b, m)
	if impl.GoodModel(b, m) != good {
		t.Fatalf("GoodModel is %v\n%+v\n%+v", !good, b, m)
	}
	if len(got) != len(want) {
		t.Fatalf("%d values, want %d", len(got), len(want))
	}
	for id := range want {
		if got[id] != want[id] {
			t.Fatalf("term %d, %+v: %s, want %s\n%v", id, b.Terms[id], short(got[id]), short(want[id]), kidsOf(b, want, id))
		}
	}
	checkHolds(t, b, m, want)
	if !sameBank(b, bank) || !reflect.DeepEqual(copiedModel(m), model) {
		t.Fatal("what was handed in was changed")
	}
	return got
}

func kidsOf(b impl.Bank, values []string, id int) []string {
	var kids []string
	for _, kid := range b.Terms[id].Kids {
		kids = append(kids, short(values[kid]))
	}
	return kids
}

// checkHolds asks for all true terms at once, for each other one beside them, and for some that are none.
func checkHolds(t *testing.T, b impl.Bank, m impl.Model, values []string) {
	t.Helper()
	good := isPlainModel(b, m)
	var all, others []int
	for id, v := range values {
		if b.Terms[id].Sort == "Bool" && v == "true" {
			all = append(all, id)
		} else {
			others = append(others, id)
		}
	}
	before := slices.Clone(all)
	if impl.Holds(b, m, all) != good || impl.Holds(b, m, nil) != good || impl.Holds(b, m, append(before, before...)) != good {
		t.Fatalf("Holds of the true terms %v is %v", all, !good)
	}
	if !slices.Equal(before[:len(all)], all) {
		t.Fatal("the roots were changed")
	}
	step := 1 + len(others)/4 // of many not all
	for i := 0; i < len(others); i += step {
		if impl.Holds(b, m, []int{others[i]}) || impl.Holds(b, m, append(slices.Clone(all), others[i])) {
			t.Fatalf("Holds of term %d, which is %s", others[i], short(values[others[i]]))
		}
	}
	for _, none := range []int{-1, len(b.Terms), -1 << 63, 1<<63 - 1} {
		if impl.Holds(b, m, []int{none}) || impl.Holds(b, m, append(slices.Clone(all), none)) {
			t.Fatalf("Holds of the index %d", none)
		}
	}
}
