package tests

import (
	"math/rand"
	"slices"
	"strconv"
	"testing"

	"loop.example/g00007/impl"
)

// checkModel asks whether a model is good, and for all that hangs on it.
func checkModel(t *testing.T, b impl.Bank, m impl.Model, want bool) {
	t.Helper()
	if impl.GoodModel(b, m) != want {
		t.Errorf("GoodModel is %v: %+v", !want, m)
	}
	if values := checkEval(t, b, m); (len(values) > 0) != want {
		t.Errorf("%d values: %+v", len(values), m)
	}
	if impl.Holds(b, m, nil) != want || impl.Holds(b, m, []int{0}) != want {
		t.Errorf("Holds is %v: %+v", !want, m)
	}
}

func bankMix(t *testing.T) impl.Bank {
	t.Helper()
	r := parsed(t, declaredMix+"(assert (g (f x) u))(get-value ((h r w x) (k z) a c s v (and p q)))")
	if r.Err != impl.LangOk {
		t.Fatalf("Err %d at %d", r.Err, r.At)
	}
	return r.Script.Bank
}

// changed is modelMix with one thing done to it.
func changed(change func(m *impl.Model)) impl.Model {
	m := modelMix()
	change(&m)
	return m
}

// Interps that are lacking, too many, in another order or of another name.
func TestStage7Interps(t *testing.T) {
	b := bankMix(t)
	checkModel(t, b, modelMix(), true)
	checkModel(t, b, impl.Model{}, false)
	for i := range b.Funs {
		checkModel(t, b, changed(func(m *impl.Model) { m.Interps = m.Interps[:i] }), false)
		checkModel(t, b, changed(func(m *impl.Model) { m.Interps = slices.Delete(m.Interps, i, i+1) }), false)
		checkModel(t, b, changed(func(m *impl.Model) { m.Interps = slices.Insert(m.Interps, i, m.Interps[i]) }), false)
		checkModel(t, b, changed(func(m *impl.Model) { m.Interps[i] = impl.Interp{} }), false)
		for j := range i {
			checkModel(t, b, changed(func(m *impl.Model) { m.Interps[i], m.Interps[j] = m.Interps[j], m.Interps[i] }), false)
			checkModel(t, b, changed(func(m *impl.Model) { m.Interps[i].Name, m.Interps[j].Name = m.Interps[j].Name, m.Interps[i].Name }), false)
		}
		for _, name := range []string{"", "P", " ", b.Funs[i].Name + " ", "|" + b.Funs[i].Name + "|", b.Funs[i].Name + b.Funs[i].Name, "U"} {
			checkModel(t, b, changed(func(m *impl.Model) { m.Interps[i].Name = name }), false)
		}
	}
	checkModel(t, b, changed(func(m *impl.Model) { m.Interps = append(m.Interps, m.Interps[0]) }), false)
	checkModel(t, b, changed(func(m *impl.Model) { m.Interps = append(m.Interps, impl.Interp{}) }), false)
	checkModel(t, b, changed(func(m *impl.Model) { m.Interps = append(m.Interps, impl.Interp{Name: "U", Rest: "@0"}) }), false)
	checkModel(t, impl.NewBank(), impl.Model{}, true)
	checkModel(t, impl.NewBank(), modelMix(), false)
	checkModel(t, impl.NewBank(), impl.Model{Interps: []impl.Interp{{}}}, false)
}

// Texts that are a value of some sort or of none, as a Rest, as a Val and as an argument.
func TestStage7ValuesInModels(t *testing.T) {
	b := bankMix(t)
	texts := []string{"", " ", "true", "false", "True", "0", "5", "-0", "05", "+5", "5 ", "1/2", "-1/2", "2/4", "5/1", "0.5", "@0", "@1", "@01", "@1000000", "@", "#b1001", "#b0011", "#b100", "#b10011", "#b1002", "1001", "#xF", "{0}", "{5;1=2}", "{0;1=0}", "{0;2=1;1=1}",
		"{0;1=1;1=1}", "{1/2}", "{@0}", "{@0;#b1=@1}", "{@0;#b0=@1}", "{@0;1=@1}", "{}", "{0", "{{0}}", nines(impl.ValueMax), nines(impl.ValueMax + 1), minus(nines(impl.ValueMax - 1)), minus(nines(impl.ValueMax)), entriesOf(longArray, 1, 60), entriesOf(longArray, 1, 61)}
	for i, f := range b.Funs {
		good := 0
		for _, text := range texts {
			m := modelMix()
			m.Interps[i].Rest = text
			isGood := isPlainValue(b.Sorts, f.Sort, text) && !slices.ContainsFunc(m.Interps[i].Rows, func(r impl.Row) bool { return r.Val == text })
			checkModel(t, b, m, isGood)
			if isGood {
				good++
			}
			for j := range m.Interps[i].Rows {
				m := modelMix()
				m.Interps[i].Rows[j].Val = text
				checkModel(t, b, m, isPlainValue(b.Sorts, f.Sort, text) && text != m.Interps[i].Rest)
				for k := range f.Args {
					m := modelMix()
					m.Interps[i].Rows[j].Args[k] = text
					checkEval(t, b, m)
				}
			}
		}
		if good == 0 && f.Name != "g" {
			t.Errorf("no Rest of %s was good", f.Name)
		}
	}
}

// A Fun without Args has no Rows; one with some has as many arguments in each.
func TestStage7Rows(t *testing.T) {
	b := bankMix(t)
	for i, f := range b.Funs {
		first := impl.FirstValue(b.Sorts, f.Sort)
		other := map[string]string{"Bool": "true", "Int": "1", "Real": "1/2", "U": "@1", "(_ BitVec 4)": "#b0001", longArray: "{1}", "(Array (_ BitVec 1) U)": "{@1}"}[f.Sort]
		var args []string
		for _, arg := range f.Args {
			args = append(args, impl.FirstValue(b.Sorts, arg))
		}
		with := func(rows ...impl.Row) impl.Model {
			return changed(func(m *impl.Model) { m.Interps[i] = impl.Interp{Name: f.Name, Rest: first, Rows: rows} })
		}
		checkModel(t, b, with(), true)
		checkModel(t, b, with(row(other, args...)), len(f.Args) > 0)
		checkModel(t, b, with(row(first, args...)), false)
		checkModel(t, b, with(row(other, append(slices.Clone(args), "0")...)), false)
		checkModel(t, b, with(row(other, append(slices.Clone(args), "")...)), false)
		checkModel(t, b, with(row(other, args...), row(other, args...)), false)
		checkModel(t, b, with(impl.Row{}), false)
		checkModel(t, b, with(impl.Row{Val: other}), false)
		if len(args) > 0 {
			checkModel(t, b, with(row(other, args[1:]...)), false)
			checkModel(t, b, with(row("", args...)), false)
		}
		m := with()
		m.Interps[i].Rows = []impl.Row{}
		checkModel(t, b, m, true)
	}
}

// tableBank has a function of each number of arguments, and a call of each.
func tableBank(t *testing.T, args ...string) impl.Bank {
	t.Helper()
	b := impl.Bank{Sorts: valueOwn(), Funs: []impl.Fun{{Name: "f", Args: args, Sort: "Int"}}}
	call := impl.Term{Op: impl.OpApp, Sort: "Int", Text: "f"}
	for i, arg := range args {
		name := "x" + strconv.Itoa(i)
		b.Funs = append(b.Funs, impl.Fun{Name: name, Sort: arg})
		b.Terms = append(b.Terms, constant(name, arg))
		call.Kids = append(call.Kids, i)
	}
	b.Terms = append(b.Terms, call)
	if !impl.GoodBank(b) {
		t.Fatalf("the bank is good: %+v", b)
	}
	return b
}

func tableModel(rows []impl.Row, args ...string) impl.Model {
	m := modelWith(args...)
	m.Interps = append([]impl.Interp{{Name: "f", Rest: "-1", Rows: rows}}, m.Interps...)
	return m
}

// TableMax rows, and one more; each row is found, and what lies between two is not.
func TestStage7TableMax(t *testing.T) {
	b := tableBank(t, "Int")
	for _, n := range []int{0, 1, 2, 3, impl.TableMax - 1, impl.TableMax, impl.TableMax + 1, 2 * impl.TableMax} {
		var rows []impl.Row
		for i := range n {
			rows = append(rows, row(strconv.Itoa(i), strconv.Itoa(2*i-50)))
		}
		if impl.GoodModel(b, tableModel(rows, "0")) != (n <= impl.TableMax) {
			t.Errorf("%d rows", n)
		}
		for at := -53; at < 2*n-40; at++ {
			values := checkEval(t, b, tableModel(rows, strconv.Itoa(at)))
			want := "-1"
			if at%2 == 0 && at >= -50 && at < 2*n-50 {
				want = strconv.Itoa((at + 50) / 2)
			}
			if n <= impl.TableMax && values[1] != want {
				t.Fatalf("%d rows, at %d: %s", n, at, values[1])
			}
		}
	}
}

// Rows ascend by the order of each argument's sort, not by their texts; the first argument that parts two rows decides.
func TestStage7OrderOfRows(t *testing.T) {
	for _, sort := range partSorts() {
		one, three := tableBank(t, sort), tableBank(t, "Int", sort, sort)
		values := ascending(sort)
		for i, x := range values {
			for j, y := range values {
				rows := []impl.Row{row("1", x), row("2", y)}
				checkTable(t, one, tableModel(rows, x), i < j, "1")
				checkTable(t, one, tableModel(rows, y), i < j, "2")
				k := (i + j) % len(values)
				z := values[k]
				checkTable(t, three, tableModel([]impl.Row{row("1", "9", y, z), row("2", "10", x, y)}, "9", y, z), true, "1")
				checkTable(t, three, tableModel([]impl.Row{row("1", "10", x, y), row("2", "9", y, z)}, "9", y, z), false, "")
				checkTable(t, three, tableModel([]impl.Row{row("1", "9", x, z), row("2", "9", y, z)}, "9", y, z), i < j, "2")
				checkTable(t, three, tableModel([]impl.Row{row("1", "9", x, z), row("2", "9", y, x)}, "9", y, x), i < j || i == j && k < i, "2")
				checkTable(t, three, tableModel([]impl.Row{row("1", "9", z, x), row("2", "9", z, y)}, "9", z, x), i < j, "1")
				checkTable(t, three, tableModel([]impl.Row{row("1", "9", z, x), row("2", "9", z, y)}, "8", z, x), i < j, "-1")
			}
		}
		var rows, back []impl.Row
		for i, x := range values {
			rows = append(rows, row(strconv.Itoa(i), x))
			back = append(back, row(strconv.Itoa(i), values[len(values)-1-i]))
		}
		for i, x := range values {
			checkTable(t, one, tableModel(rows, x), true, strconv.Itoa(i))
		}
		checkTable(t, one, tableModel(back, values[0]), false, "")
	}
}

// checkTable asks for the call, the last term.
func checkTable(t *testing.T, b impl.Bank, m impl.Model, isGood bool, want string) {
	t.Helper()
	values := checkEval(t, b, m)
	if (len(values) > 0) != isGood {
		t.Fatalf("good: %v\n%+v", len(values) > 0, m)
	}
	if isGood && values[len(values)-1] != want {
		t.Fatalf("the call is %s, want %s\n%+v", values[len(values)-1], want, m)
	}
}

// Functions of up to MaxArgs arguments.
func TestStage7ManyArguments(t *testing.T) {
	for n := 1; n <= impl.MaxArgs; n++ {
		b := tableBank(t, []string{"Int", "U", "Real", "(_ BitVec 2)", "|a b|"}[:n]...)
		low, high := []string{"2", "@2", "1/3", "#b01", "@9"}[:n], []string{"10", "@10", "1/2", "#b10", "@10"}[:n]
		var rows []impl.Row
		for mask := range 1 << n { // the first argument counts most
			args := slices.Clone(low)
			for i := range n {
				if mask>>(n-1-i)&1 == 1 {
					args[i] = high[i]
				}
			}
			rows = append(rows, row(strconv.Itoa(mask), args...))
		}
		for i, r := range rows {
			checkTable(t, b, tableModel(rows, r.Args...), true, strconv.Itoa(i))
			less := slices.Delete(slices.Clone(rows), i, i+1)
			checkTable(t, b, tableModel(less, r.Args...), true, "-1")
			for j := range i {
				swapped := slices.Clone(rows)
				swapped[i], swapped[j] = swapped[j], swapped[i]
				checkTable(t, b, tableModel(swapped, r.Args...), false, "")
				twice := slices.Clone(rows)
				twice[i] = impl.Row{Args: rows[j].Args, Val: "77"}
				checkTable(t, b, tableModel(twice, r.Args...), false, "")
			}
		}
	}
}

// A bank that is not good has no good model.
func TestStage7NoBanks(t *testing.T) {
	for _, spoilt := range []func(b *impl.Bank){
		func(b *impl.Bank) { b.Terms[3].Op = 99 }, func(b *impl.Bank) { b.Terms[3].Op = 0 }, func(b *impl.Bank) { b.Terms[3].Op = -1 }, func(b *impl.Bank) { b.Terms[0].Sort = "Int" }, func(b *impl.Bank) { b.Terms[1] = b.Terms[0] },
		func(b *impl.Bank) { b.Terms[0].Kids = []int{0} }, func(b *impl.Bank) { b.Terms[len(b.Terms)-1].Kids = []int{len(b.Terms) - 1, 0} }, func(b *impl.Bank) { b.Terms[len(b.Terms)-1].Kids[0] = -1 }, func(b *impl.Bank) { b.Terms[len(b.Terms)-1].Kids[0] = 1 << 40 },
		func(b *impl.Bank) { b.Sorts = nil }, func(b *impl.Bank) { b.Sorts = []string{"U", "U"} }, func(b *impl.Bank) { b.Sorts = []string{"V"} }, func(b *impl.Bank) { b.Funs[0].Sort = "Int" }, func(b *impl.Bank) { b.Funs[0].Sort = "" }, func(b *impl.Bank) { b.Funs[1].Name = b.Funs[0].Name },
		func(b *impl.Bank) { b.Terms = append(b.Terms, impl.Term{}) }, func(b *impl.Bank) { b.Terms = append(b.Terms, constant("nobody", "Int")) }, func(b *impl.Bank) { b.Terms = append(b.Terms, constant("f", "Int")) },
	} {
		b := copied(bankMix(t))
		spoilt(&b)
		m := modelMix()
		for i := range b.Funs {
			m.Interps[i].Name = b.Funs[i].Name
		}
		if impl.GoodBank(b) {
			t.Fatalf("a good bank: %+v", b)
		}
		checkModel(t, b, m, false)
	}
	for _, n := range []int{impl.MaxTerms, impl.MaxTerms + 1} {
		many := manyTerms(n)
		if values := checkEval(t, many, firstModel(many)); (len(values) > 0) != (n == impl.MaxTerms) {
			t.Errorf("%d terms: %d values", n, len(values))
		}
	}
}

// firstModel gives each function the first value of its sort.
func firstModel(b impl.Bank) impl.Model {
	var m impl.Model
	for _, f := range b.Funs {
		m.Interps = append(m.Interps, fixed(f.Name, impl.FirstValue(b.Sorts, f.Sort)))
	}
	return m
}

// Roots that are none, or of no Bool term, or false; none at all.
func TestStage7Roots(t *testing.T) {
	b, m := bankMix(t), modelMix()
	values := checkEval(t, b, m)
	var trues, falses, others []int
	for id, x := range b.Terms {
		switch {
		case x.Sort != "Bool":
			others = append(others, id)
		case values[id] == "true":
			trues = append(trues, id)
		default:
			falses = append(falses, id)
		}
	}
	if len(trues) < 2 || len(falses) < 2 || len(others) < 9 {
		t.Fatalf("%v, %v, %v", trues, falses, others)
	}
	if !impl.Holds(b, m, nil) || !impl.Holds(b, m, []int{}) || !impl.Holds(b, m, trues) || !impl.Holds(b, m, slices.Repeat(trues, 100)) {
		t.Error("true terms hold")
	}
	for _, bad := range append(append(falses, others...), -1, -2, len(b.Terms), len(b.Terms)+1, 1<<62, -1<<63, 1<<63-1) {
		for place := range len(trues) + 1 {
			roots := slices.Insert(slices.Clone(trues), place, bad)
			before := slices.Clone(roots)
			if impl.Holds(b, m, roots) || impl.Holds(b, m, []int{bad}) {
				t.Errorf("Holds of %v", roots)
			}
			if !slices.Equal(roots, before) {
				t.Error("the roots were changed")
			}
		}
	}
	bad := changed(func(m *impl.Model) { m.Interps[0].Rest = "" })
	if impl.Holds(b, bad, nil) || impl.Holds(b, bad, []int{0}) || impl.Holds(b, impl.Model{}, nil) || impl.Holds(impl.Bank{Terms: []impl.Term{{}}}, impl.Model{}, nil) {
		t.Error("Holds in no model")
	}
}

// The answer is of its own memory: to write over it changes neither the model nor another answer.
func TestStage7OwnMemory(t *testing.T) {
	b, m := bankMix(t), modelMix()
	first, second := impl.Eval(b, m), impl.Eval(b, m)
	want := slices.Clone(first)
	for i := range first[:cap(first)] {
		first[:cap(first)][i] = "spoilt"
	}
	if !slices.Equal(second, want) || !slices.Equal(checkEval(t, b, m), want) {
		t.Error("two answers share memory")
	}
}

// drawnBank has functions over many sorts and two chains of products that pass IntDigits digits where their numbers are long.
func drawnBank(t *testing.T) impl.Bank {
	t.Helper()
	g := &growing{t: t, bank: mixedBank()}
	word := bitsOf(5)
	g.bank.Funs = append(g.bank.Funs, impl.Fun{Name: "j", Sort: "Int"}, impl.Fun{Name: "s", Sort: "Real"}, impl.Fun{Name: "n", Sort: longArray}, impl.Fun{Name: "o", Sort: arrayOf("Real", word)}, impl.Fun{Name: "wide", Sort: word},
		impl.Fun{Name: "fi", Args: []string{"Int"}, Sort: "Int"}, impl.Fun{Name: "fr", Args: []string{"Real", "Int"}, Sort: "Real"}, impl.Fun{Name: "fw", Args: []string{word, word}, Sort: "Bool"}, impl.Fun{Name: "fu", Args: []string{"U"}, Sort: "U"})
	g.call("j", "Int")
	g.call("s", "Real")
	g.call("n", longArray)
	g.call("o", arrayOf("Real", word))
	g.call("wide", word)
	g.call("p", "Bool")
	const more = impl.IntDigits - impl.ValueMax/2
	g.scaled(g.call("j", "Int"), "Int", more, false)
	g.scaled(g.call("s", "Real"), "Real", more, true)
	return g.bank
}

// drawCall draws a call of a function with arguments.
func drawCall(r *rand.Rand, b impl.Bank) impl.Term {
	f := b.Funs[r.Intn(len(b.Funs))]
	for len(f.Args) == 0 {
		f = b.Funs[r.Intn(len(b.Funs))]
	}
	x := impl.Term{Op: impl.OpApp, Sort: f.Sort, Text: f.Name}
	for _, arg := range f.Args {
		kid := r.Intn(len(b.Terms))
		for b.Terms[kid].Sort != arg {
			kid = r.Intn(len(b.Terms))
		}
		x.Kids = append(x.Kids, kid)
	}
	return x
}

// drawValue draws a value of any sort; numbers are long now and then.
func drawValue(r *rand.Rand, own []string, sort string) string {
	info := impl.ReadSort(own, sort)
	if info.Kind == impl.SortArray {
		a := impl.FirstValue(own, sort)
		for range r.Intn(6) {
			if b := impl.ArrayPut(own, sort, a, drawPart(r, info.Index), drawPart(r, info.Elem)); b != "" {
				a = b
			}
		}
		return a
	}
	if r.Intn(8) == 0 && info.Kind == impl.SortInt {
		return drawInt(r, impl.ValueMax-1)
	}
	if r.Intn(8) == 0 && info.Kind == impl.SortReal {
		return drawRat(r, impl.ValueMax/2-1)
	}
	return drawPart(r, sort)
}

// drawModel draws a good model; the arguments of rows are few, so that calls find them.
func drawModel(r *rand.Rand, b impl.Bank) impl.Model {
	var m impl.Model
	for _, f := range b.Funs {
		in := fixed(f.Name, drawValue(r, b.Sorts, f.Sort))
		if len(f.Args) > 0 {
			for range r.Intn(30) {
				one := row(drawValue(r, b.Sorts, f.Sort))
				for _, arg := range f.Args {
					one.Args = append(one.Args, drawPart(r, arg))
				}
				isTwin := slices.ContainsFunc(in.Rows, func(other impl.Row) bool { return slices.Equal(other.Args, one.Args) })
				if !isTwin && one.Val != in.Rest {
					in.Rows = append(in.Rows, one)
				}
			}
			slices.SortFunc(in.Rows, func(x, y impl.Row) int {
				if ascend(x.Args, y.Args) {
					return -1
				}
				return 1
			})
		}
		m.Interps = append(m.Interps, in)
	}
	return m
}

// Drawn banks and models. What is in a bank keeps its value when terms are added to it, and when a function is.
func TestStage7Drawn(t *testing.T) {
	r := rand.New(rand.NewSource(7))
	none, rows := 0, 0
	for range 8 {
		b := drawnBank(t)
		for range 3 {
			before := b
			for range 40 {
				b = impl.AddTerm(b, drawRight(r, b)).Bank
				b = impl.AddTerm(b, drawCall(r, b)).Bank
			}
			for range 3 {
				m := drawModel(r, b)
				first, values := checkEval(t, before, m), checkEval(t, b, m)
				if len(first) != len(before.Terms) || !slices.Equal(values[:len(first)], first) {
					t.Fatal("a term that was added changed others")
				}
				for id, x := range b.Terms {
					if values[id] == "" {
						none++
					}
					if x.Op == impl.OpApp && len(x.Kids) > 0 && values[id] != "" && values[id] != m.Interps[slices.IndexFunc(b.Funs, func(f impl.Fun) bool { return f.Name == x.Text })].Rest {
						rows++
					}
				}
				m.Interps = append(m.Interps, fixed("more", "1"))
				more := impl.AddFun(b, impl.Fun{Name: "more", Sort: "Int"}).Bank
				if !slices.Equal(checkEval(t, more, m), values) {
					t.Fatal("a function that was added changed others")
				}
			}
		}
	}
	if none < 100 || rows < 100 {
		t.Errorf("%d terms without a value, %d that a row gives", none, rows)
	}
}

// Drawn models with one thing wrong, or what may be wrong.
func TestStage7DrawnFaults(t *testing.T) {
	r := rand.New(rand.NewSource(77))
	b := drawnBank(t)
	good, bad := 0, 0
	for range 600 {
		m := drawModel(r, b)
		in := &m.Interps[r.Intn(len(m.Interps))]
		if len(in.Rows) > 1 && r.Intn(2) == 0 {
			i, j := r.Intn(len(in.Rows)), r.Intn(len(in.Rows))
			args := slices.Clone(in.Rows[i].Args)
			k := r.Intn(len(args))
			args[k] = in.Rows[j].Args[k]
			in.Rows[i].Args = args
		} else if len(in.Rows) > 0 {
			in.Rows[r.Intn(len(in.Rows))].Val = drawValue(r, b.Sorts, b.Funs[r.Intn(len(b.Funs))].Sort)
		} else {
			in.Rest = drawValue(r, b.Sorts, b.Funs[r.Intn(len(b.Funs))].Sort)
		}
		if len(checkEval(t, b, m)) > 0 {
			good++
		} else {
			bad++
		}
	}
	if good < 100 || bad < 100 {
		t.Errorf("%d good and %d bad models", good, bad)
	}
}
