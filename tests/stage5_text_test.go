package tests

import (
	"math/rand"
	"slices"
	"strconv"
	"strings"
	"testing"

	"loop.example/g00007/impl"
)

// plainText is TermText written down a second time, without its limit.
func plainText(b impl.Bank, id int) string {
	x := b.Terms[id]
	head := ""
	switch x.Op {
	case impl.OpTrue:
		return "true"
	case impl.OpFalse:
		return "false"
	case impl.OpNum:
		return plainNumber(x.Sort, x.Text)
	case impl.OpBits:
		return "#b" + x.Text
	case impl.OpApp:
		head = ownText(x.Text)
	case impl.OpSub, impl.OpNeg:
		head = "-"
	case impl.OpMul:
		head = "*"
	case impl.OpExtract:
		head = "(_ extract " + strconv.Itoa(x.A) + " " + strconv.Itoa(x.B) + ")"
	case impl.OpZext:
		head = "(_ zero_extend " + strconv.Itoa(x.A) + ")"
	case impl.OpSext:
		head = "(_ sign_extend " + strconv.Itoa(x.A) + ")"
	default:
		for _, pair := range strings.Fields(plainWords) {
			if word, found := strings.CutSuffix(pair, ":"+strconv.Itoa(x.Op)); found {
				head = word
			}
		}
	}
	if len(x.Kids) == 0 {
		return head
	}
	for _, kid := range x.Kids {
		head += " " + plainText(b, kid)
	}
	return "(" + head + ")"
}

func plainNumber(sort, text string) string {
	p, q, isPart := strings.Cut(text, "/")
	if sort == "Real" {
		p += ".0"
	}
	if p[0] == '-' {
		p = "(- " + p[1:] + ")"
	}
	if isPart {
		return "(/ " + p + " " + q + ".0)"
	}
	return p
}

func plainCommand(b impl.Bank, c impl.Command) string {
	var texts []string
	for _, id := range c.Ids {
		texts = append(texts, plainText(b, id))
	}
	row := strings.Join(texts, " ")
	switch c.Kind {
	case impl.CmdAssert:
		if c.Text != "" {
			return "(assert (! " + row + " :named " + ownText(c.Text) + "))"
		}
		return "(assert " + row + ")"
	case impl.CmdCheck:
		if row != "" {
			return "(check-sat-assuming (" + row + "))"
		}
		return "(check-sat)"
	case impl.CmdValue:
		return "(get-value (" + row + "))"
	case impl.CmdEcho:
		return "(echo \"" + strings.ReplaceAll(c.Text, "\"", "\"\"") + "\")"
	}
	num := strconv.Itoa(c.Num)
	return []string{"", "", "(push " + num + ")", "(pop " + num + ")", "", "", "(get-model)", "(get-unsat-core)", "(get-proof)", "", "(set-steps " + num + ")"}[c.Kind]
}

func plainScriptText(s impl.Script) string {
	var b strings.Builder
	for _, name := range s.Bank.Sorts {
		b.WriteString("(declare-sort " + ownText(name) + " 0)\n")
	}
	for _, f := range s.Bank.Funs {
		b.WriteString("(declare-fun " + ownText(f.Name) + " (" + strings.Join(f.Args, " ") + ") " + f.Sort + ")\n")
	}
	for _, c := range s.Commands {
		b.WriteString(plainCommand(s.Bank, c) + "\n")
	}
	return b.String()
}

// checkPromise is promise 4 for a good script: its text is read, and what is read has the same text, term by term.
func checkPromise(t *testing.T, s impl.Script) {
	t.Helper()
	kept := copiedScript(s)
	text := impl.ScriptText(s)
	if !sameScript(s, kept) {
		t.Fatalf("the script that was handed in is changed: %+v", s)
	}
	if text == "" && plainScriptText(s) == "" {
		return
	}
	if text != plainScriptText(s) {
		t.Fatalf("text\n%s\nwant\n%s", text, plainScriptText(s))
	}
	r := parsed(t, text)
	if r.Err != impl.LangOk {
		t.Fatalf("%s\nread with Err %d at %d", text, r.Err, r.At)
	}
	if again := impl.ScriptText(r.Script); again != text {
		t.Fatalf("%s\nis read and written as\n%s", text, again)
	}
	for i, c := range r.Script.Commands {
		for j, id := range c.Ids {
			if impl.TermText(r.Script.Bank, id) != impl.TermText(s.Bank, s.Commands[i].Ids[j]) {
				t.Fatalf("command %d, term %d: %s", i, j, impl.TermText(r.Script.Bank, id))
			}
		}
	}
	checkAsPlain(t, text)
}

func TestStage5TermText(t *testing.T) {
	b := mixedBank()
	for _, c := range []struct {
		x    impl.Term
		want string
	}{
		{numeral("Int", "0"), "0"}, {numeral("Int", "5"), "5"}, {numeral("Int", "-5"), "(- 5)"}, {numeral("Real", "0"), "0.0"}, {numeral("Real", "5"), "5.0"}, {numeral("Real", "-5"), "(- 5.0)"}, {numeral("Real", "5/3"), "(/ 5.0 3.0)"}, {numeral("Real", "-5/3"), "(/ (- 5.0) 3.0)"},
		{term(impl.OpTrue, "Bool"), "true"}, {constant("a b c", "|a b|"), "|a b c|"}, {constant("p", "Bool"), "p"}, {term(impl.OpNot, "Bool", 1), "(not false)"}, {term(impl.OpImplies, "Bool", 0, 1), "(=> true false)"}, {term(impl.OpNeg, "Int", 3), "(- 3)"}, {term(impl.OpNeg, "Int", 2), "(- i)"},
		{term(impl.OpSub, "Int", 2, 3), "(- i 3)"}, {term(impl.OpMul, "Int", 3, 2), "(* 3 i)"}, {term(impl.OpAdd, "Real", 5, 6, 5), "(+ r 0.0 r)"}, {term(impl.OpToReal, "Real", 2), "(to_real i)"}, {term(impl.OpBvDiv, "(_ BitVec 2)", 11, 11), "(bvudiv x x)"}, {term(impl.OpBvShr, "(_ BitVec 2)", 11, 11), "(bvlshr x x)"},
		{impl.Term{Op: impl.OpBits, Sort: "(_ BitVec 3)", Text: "010"}, "#b010"}, {impl.Term{Op: impl.OpExtract, Sort: "(_ BitVec 1)", A: 1, B: 1, Kids: []int{11}}, "((_ extract 1 1) x)"}, {impl.Term{Op: impl.OpZext, Sort: "(_ BitVec 5)", A: 3, Kids: []int{11}}, "((_ zero_extend 3) x)"},
		{impl.Term{Op: impl.OpSext, Sort: "(_ BitVec 12)", A: 10, Kids: []int{11}}, "((_ sign_extend 10) x)"}, {impl.Term{Op: impl.OpApp, Sort: "U", Text: "h", Kids: []int{5, 8, 12}}, "(h r |a b c| y)"}, {term(impl.OpStore, "(Array U |a b|)", 9, 7, 8), "(store m u |a b c|)"}, {term(impl.OpSelect, "|a b|", 9, 7), "(select m u)"},
	} {
		r := impl.AddTerm(b, c.x)
		if r.Err != impl.BankOk {
			t.Fatalf("%+v: %d", c.x, r.Err)
		}
		if got := impl.TermText(r.Bank, r.Id); got != c.want {
			t.Errorf("%+v: %q, want %q", c.x, got, c.want)
		}
	}
	for _, x := range ordinaryTerms() {
		r := impl.AddTerm(b, x)
		if got, want := impl.TermText(r.Bank, r.Id), plainText(r.Bank, r.Id); got != want {
			t.Errorf("%+v: %q, want %q", x, got, want)
		}
	}
	for _, id := range []int{-1, len(b.Terms), 1 << 62, -1 << 63} {
		if got := impl.TermText(b, id); got != "" {
			t.Errorf("term %d: %q", id, got)
		}
	}
	if got := impl.TermText(impl.Bank{}, 0); got != "" {
		t.Errorf("a term of the empty bank: %q", got)
	}
	hidden := impl.Bank{Funs: []impl.Fun{{Name: ".0", Sort: "Int"}}, Terms: []impl.Term{constant(".0", "Int")}}
	if got := impl.TermText(hidden, 0); got != ".0" {
		t.Errorf("what the solver adds has a text: %q", got)
	}
	b.Terms = append(b.Terms, numeral("Int", "3"))
	if got := impl.TermText(b, 0); got != "" {
		t.Errorf("a term of no good bank: %q", got)
	}
}

// Texts of TextMax bytes and of one more; and terms that share their kids, whose texts would never end.
func TestStage5LongTermText(t *testing.T) {
	for _, size := range []int{impl.TextMax - 1, impl.TextMax, impl.TextMax + 1} {
		last, long := strings.Repeat("k", 5+size-impl.TextMax), strings.Repeat("n", impl.MaxSym)
		b := impl.NewBank()
		b.Funs = []impl.Fun{{Name: last, Sort: "Bool"}, {Name: long, Sort: "Bool"}}
		b.Terms = append(b.Terms, constant(last, "Bool"), constant(long, "Bool"), term(impl.OpAnd, "Bool", slices.Repeat([]int{3}, 50)...), term(impl.OpAnd, "Bool", slices.Repeat([]int{4}, 6)...))
		b.Terms = append(b.Terms, term(impl.OpOr, "Bool", 5, 2), term(impl.OpAnd, "Bool", append(slices.Repeat([]int{3}, 27), 5, 2)...))
		want := plainText(b, 7)
		if len(want) != size {
			t.Fatalf("the text has %d bytes, and should have %d", len(want), size)
		}
		if size > impl.TextMax {
			want = ""
		}
		if got := impl.TermText(b, 7); got != want {
			t.Errorf("of %d bytes: %d", size, len(got))
		}
	}
	deep := impl.NewBank()
	for len(deep.Terms) < impl.MaxTerms {
		deep.Terms = append(deep.Terms, term(impl.OpAnd, "Bool", len(deep.Terms)-1, len(deep.Terms)-1))
	}
	for _, id := range []int{13, 14, 15, 60, impl.MaxTerms - 1} {
		if text := impl.TermText(deep, id); (text != "") != (id < 13) {
			t.Errorf("term %d: %d bytes", id, len(text))
		}
	}
	chain := impl.NewBank()
	for len(chain.Terms) < impl.MaxTerms {
		chain.Terms = append(chain.Terms, term(impl.OpNot, "Bool", len(chain.Terms)-1))
	}
	if text := impl.TermText(chain, impl.MaxTerms-1); text != plainText(chain, impl.MaxTerms-1) || text == "" {
		t.Errorf("not in not: %d bytes", len(text))
	}
}

// goodScript is one with each kind of command.
func goodScript() impl.Script {
	b := mixedBank()
	b.Terms = append(b.Terms, constant("p", "Bool"), term(impl.OpNot, "Bool", 13), numeral("Int", "-4"), term(impl.OpLt, "Bool", 2, 15), term(impl.OpNeg, "Int", 3))
	return impl.Script{Bank: b, Commands: []impl.Command{
		{Kind: impl.CmdAssert, Ids: []int{13}}, {Kind: impl.CmdPush, Num: 2}, {Kind: impl.CmdAssert, Text: "A", Ids: []int{14}}, {Kind: impl.CmdAssert, Text: "a label", Ids: []int{0}}, {Kind: impl.CmdCheck}, {Kind: impl.CmdCheck, Ids: []int{16, 1}},
		{Kind: impl.CmdPop, Num: 1}, {Kind: impl.CmdValue, Ids: []int{9, 17}}, {Kind: impl.CmdModel}, {Kind: impl.CmdCore}, {Kind: impl.CmdProof}, {Kind: impl.CmdEcho, Text: "say \"it\"\n"}, {Kind: impl.CmdSteps, Num: 999999}, {Kind: impl.CmdPop, Num: 1}, {Kind: impl.CmdSteps}}}
}

func TestStage5ScriptText(t *testing.T) {
	s := goodScript()
	want := "(declare-sort U 0)\n(declare-sort |a b| 0)\n(declare-fun p () Bool)\n(declare-fun i () Int)\n(declare-fun r () Real)\n(declare-fun u () U)\n(declare-fun |a b c| () |a b|)\n(declare-fun m () (Array U |a b|))\n" +
		"(declare-fun w () (Array (_ BitVec 2) (_ BitVec 1)))\n(declare-fun x () (_ BitVec 2))\n(declare-fun y () (_ BitVec 1))\n(declare-fun f (U) Bool)\n(declare-fun g (Int U) (_ BitVec 2))\n(declare-fun h (Real |a b| (_ BitVec 1)) U)\n" +
		"(assert p)\n(push 2)\n(assert (! (not p) :named A))\n(assert (! true :named |a label|))\n(check-sat)\n(check-sat-assuming ((< i (- 4)) false))\n(pop 1)\n(get-value (m (- 3)))\n(get-model)\n(get-unsat-core)\n(get-proof)\n" +
		"(echo \"say \"\"it\"\"\n\")\n(set-steps 999999)\n(pop 1)\n(set-steps 0)\n"
	if got := impl.ScriptText(s); got != want {
		t.Errorf("%s\nwant\n%s", got, want)
	}
	checkPromise(t, s)
	checkPromise(t, impl.Script{Bank: impl.NewBank()})
	if got := impl.ScriptText(impl.Script{Bank: impl.NewBank()}); got != "" {
		t.Errorf("the text of nothing: %q", got)
	}
	empty := impl.Script{Bank: impl.NewBank(), Commands: []impl.Command{{Kind: impl.CmdCheck, Ids: []int{}}}}
	if got := impl.ScriptText(empty); got != "(check-sat)\n" {
		t.Errorf("%q", got)
	}
}

// A text of TextMax bytes, of one more, of TreeMax nodes, of one more, and of lists that are too deep.
func TestStage5LongScriptText(t *testing.T) {
	one := func(c ...impl.Command) impl.Script { return impl.Script{Bank: impl.NewBank(), Commands: c} }
	for _, n := range []int{0, 1, impl.TextMax - 10, impl.TextMax - 9, impl.TextMax, impl.TextMax + 1, 10 * impl.TextMax} {
		s := one(impl.Command{Kind: impl.CmdEcho, Text: strings.Repeat("e", n)}) // (echo "").
		if !impl.GoodScript(s) || (impl.ScriptText(s) == "") != (n+10 > impl.TextMax) {
			t.Errorf("echo of %d bytes: good %v, text of %d", n, impl.GoodScript(s), len(impl.ScriptText(s)))
		}
		if n+10 <= impl.TextMax {
			checkPromise(t, s)
		}
	}
	b := impl.NewBank()
	b.Funs = []impl.Fun{{Name: "k", Sort: "Bool"}}
	b.Terms = append(b.Terms, constant("k", "Bool"))
	many := func(n int) impl.Script {
		return impl.Script{Bank: b, Commands: []impl.Command{{Kind: impl.CmdValue, Ids: slices.Repeat([]int{2}, n)}}}
	}
	most := impl.TreeMax - 5 - 3
	if s := many(most); impl.ScriptText(s) == "" || len(impl.ReadTree(impl.ScriptText(s)).Nodes) != impl.TreeMax {
		t.Errorf("TreeMax nodes: %d", len(impl.ReadTree(impl.ScriptText(s)).Nodes))
	}
	checkPromise(t, many(most))
	if s := many(most + 1); impl.ScriptText(s) != "" || !impl.GoodScript(s) {
		t.Error("more than TreeMax nodes")
	}
	for range impl.TreeDeep {
		b.Terms = append(b.Terms, term(impl.OpNot, "Bool", len(b.Terms)-1))
	}
	for _, n := range []int{1, impl.TreeDeep - 1, impl.TreeDeep} {
		s := impl.Script{Bank: b, Commands: []impl.Command{{Kind: impl.CmdAssert, Ids: []int{2 + n}}}}
		if !impl.GoodScript(s) || (impl.ScriptText(s) == "") != (n+1 > impl.TreeDeep) {
			t.Errorf("%d lists deep: %d bytes", n+1, len(impl.ScriptText(s)))
		}
		if impl.TermText(b, 2+n) == "" {
			t.Errorf("a term %d lists deep has a text", n)
		}
		if n < impl.TreeDeep {
			checkPromise(t, s)
		}
	}
}

// noScripts are scripts that are not good: each way to spoil a good one.
func noScripts() (scripts []impl.Script) {
	command := func(c impl.Command) func(*impl.Script) {
		return func(s *impl.Script) { s.Commands = append(s.Commands, c) }
	}
	spoilers := []func(*impl.Script){
		func(s *impl.Script) { s.Bank = impl.Bank{} },
		func(s *impl.Script) { s.Bank.Terms[0], s.Bank.Terms[1] = s.Bank.Terms[1], s.Bank.Terms[0] },
		func(s *impl.Script) { s.Bank.Terms = s.Bank.Terms[:1]; s.Commands = nil },
		func(s *impl.Script) { s.Bank.Terms = append(s.Bank.Terms, s.Bank.Terms[3]) },
		func(s *impl.Script) { s.Bank.Sorts = append(s.Bank.Sorts, ".s") },
		func(s *impl.Script) { s.Bank.Funs = append(s.Bank.Funs, impl.Fun{Name: ".0", Sort: "Int"}) },
		func(s *impl.Script) { s.Bank.Funs = append(s.Bank.Funs, impl.Fun{Name: "A", Sort: "Int"}) },
		func(s *impl.Script) { s.Bank.Sorts = append(s.Bank.Sorts, "a label") },
		func(s *impl.Script) { s.Commands[2].Text = ""; s.Commands[3].Text = "a b c" },
		func(s *impl.Script) { s.Bank.Sorts = s.Bank.Sorts[1:] },
	}
	for _, label := range []string{"A", "p", "U", "a b", "bvx", "and", "true", ".x", ".", "|", "\\", "é", "a\n", strings.Repeat("n", impl.MaxSym+1)} {
		spoilers = append(spoilers, command(impl.Command{Kind: impl.CmdAssert, Text: label, Ids: []int{0}}))
	}
	for _, ids := range [][]int{nil, {}, {0, 0}, {2}, {18}, {-1}, {1 << 62}} {
		spoilers = append(spoilers, command(impl.Command{Kind: impl.CmdAssert, Ids: ids}))
	}
	for _, ids := range [][]int{{2}, {0, 2}, {2, 0}, {18}, {0, -1}, {-1 << 63}} {
		spoilers = append(spoilers, command(impl.Command{Kind: impl.CmdCheck, Ids: ids}))
	}
	for _, ids := range [][]int{nil, {}, {18}, {0, -1}} {
		spoilers = append(spoilers, command(impl.Command{Kind: impl.CmdValue, Ids: ids}))
	}
	for _, n := range []int{0, -1, impl.MaxLevels + 1, 1 << 62, -1 << 63, 1<<63 - 1} {
		spoilers = append(spoilers, command(impl.Command{Kind: impl.CmdPush, Num: n}), command(impl.Command{Kind: impl.CmdPop, Num: n}))
	}
	for _, n := range []int{-1, 1000000, 1 << 62, -1 << 63} {
		spoilers = append(spoilers, command(impl.Command{Kind: impl.CmdSteps, Num: n}))
	}
	for _, text := range []string{"\x00", "a\t", "\r", "é", "\x7f", "\xff"} {
		spoilers = append(spoilers, command(impl.Command{Kind: impl.CmdEcho, Text: text}))
	}
	for _, kind := range []int{0, -1, 11, 1 << 62, -1 << 63} {
		spoilers = append(spoilers, command(impl.Command{Kind: kind}), command(impl.Command{Kind: kind, Ids: []int{0}}))
	}
	spoilers = append(spoilers, command(impl.Command{Kind: impl.CmdPop, Num: 1}), func(s *impl.Script) { s.Commands[1].Num = 1 }, func(s *impl.Script) { s.Commands = s.Commands[2:] })
	for kind, c := range map[int]impl.Command{1: {Ids: []int{0}}, 2: {Num: 1}, 4: {}, 5: {Ids: []int{0}}, 6: {}, 7: {}, 8: {}, 9: {}, 10: {}} {
		c.Kind = kind
		for _, more := range []impl.Command{{Text: "t"}, {Num: 1}, {Num: -1}, {Ids: []int{0}}} {
			x := c
			switch {
			case more.Text != "" && kind != 1 && kind != 9:
				x.Text = more.Text
			case more.Num != 0 && kind != 2 && kind != 10:
				x.Num = more.Num
			case more.Ids != nil && kind != 1 && kind != 4 && kind != 5:
				x.Ids = more.Ids
			default:
				continue
			}
			spoilers = append(spoilers, command(x))
		}
	}
	for _, spoiler := range spoilers {
		s := goodScript()
		spoiler(&s)
		scripts = append(scripts, s)
	}
	return scripts
}

func TestStage5NoScripts(t *testing.T) {
	if !impl.GoodScript(goodScript()) || !impl.GoodScript(impl.Script{Bank: impl.NewBank()}) {
		t.Fatal("these are good")
	}
	for i, s := range noScripts() {
		kept := copiedScript(s)
		if impl.GoodScript(s) || impl.ScriptText(s) != "" {
			t.Errorf("spoiler %d: %+v", i, s.Commands[max(0, len(s.Commands)-1):])
		}
		if !sameScript(s, kept) {
			t.Errorf("spoiler %d: what was handed in is changed", i)
		}
	}
}

// drawScript is a good script over a drawn bank.
func drawScript(r *rand.Rand) impl.Script {
	s := impl.Script{Bank: drawBank(r, 60)}
	for range 20 { // numbers of both signs and both sorts, and what is made of them
		num := numeral([]string{"Int", "Real"}[r.Intn(2)], drawInt(r, 1+r.Intn(30)))
		if num.Sort == "Real" && r.Intn(2) == 0 {
			num.Text = impl.RatOf(num.Text, impl.IntOf(uint64(2+r.Intn(1000))))
		}
		got := impl.AddTerm(s.Bank, num)
		got = impl.AddTerm(got.Bank, term([]int{impl.OpNeg, impl.OpAdd, impl.OpSub, impl.OpMul}[r.Intn(4)], num.Sort, []int{got.Id, got.Id}[r.Intn(2):]...))
		s.Bank = got.Bank
	}
	var bools []int
	for id, x := range s.Bank.Terms {
		if x.Sort == "Bool" {
			bools = append(bools, id)
		}
	}
	pick := func(list []int, n int) (ids []int) {
		for range n {
			ids = append(ids, list[r.Intn(len(list))])
		}
		return ids
	}
	all := make([]int, len(s.Bank.Terms))
	for i := range all {
		all[i] = i
	}
	open := 0
	for i := range r.Intn(20) {
		c := impl.Command{Kind: 1 + r.Intn(10)}
		switch c.Kind {
		case impl.CmdAssert:
			c.Ids = pick(bools, 1)
			c.Text = []string{"", "L" + strconv.Itoa(i), "a " + strconv.Itoa(i), strconv.Itoa(i)}[r.Intn(4)]
		case impl.CmdPush:
			c.Num = 1 + r.Intn(2)
			open += c.Num
		case impl.CmdPop:
			if open == 0 {
				continue
			}
			c.Num = 1 + r.Intn(open)
			open -= c.Num
		case impl.CmdCheck:
			c.Ids = pick(bools, r.Intn(3))
		case impl.CmdValue:
			c.Ids = pick(all, 1+r.Intn(4))
		case impl.CmdEcho:
			c.Text = []string{"", "\"", "a\nb", "(; |"}[r.Intn(4)]
		case impl.CmdSteps:
			c.Num = r.Intn(1000000)
		}
		s.Commands = append(s.Commands, c)
	}
	return s
}

// Promise 4 over drawn scripts that no text was read for.
func TestStage5PromiseDrawn(t *testing.T) {
	r := rand.New(rand.NewSource(53))
	texts := 0
	for range 300 {
		s := drawScript(r)
		if !impl.GoodScript(s) {
			t.Fatalf("no good script: %+v", s)
		}
		if text := plainScriptText(s); impl.ReadTree(text).Err != impl.TreeOk {
			if impl.ScriptText(s) != "" {
				t.Fatalf("a text that ReadTree does not take")
			}
			continue
		}
		texts++
		checkPromise(t, s)
		for id := range s.Bank.Terms {
			if text := plainText(s.Bank, id); len(text) <= impl.TextMax && impl.TermText(s.Bank, id) != text {
				t.Fatalf("term %d: %s, want %s", id, impl.TermText(s.Bank, id), text)
			}
		}
	}
	if texts < 200 {
		t.Errorf("only %d scripts have a text", texts)
	}
}

// Promise 4 over what is read from drawn texts.
func TestStage5PromiseRead(t *testing.T) {
	r := rand.New(rand.NewSource(54))
	for range 300 {
		d := &scriptDraw{r: r}
		if res := parsed(t, d.script(1+r.Intn(12))); res.Err == impl.LangOk && impl.ReadTree(plainScriptText(res.Script)).Err == impl.TreeOk {
			checkPromise(t, res.Script)
		}
	}
}

// A term of each operation, alone in a script.
func TestStage5PromiseEach(t *testing.T) {
	b := mixedBank()
	for _, x := range ordinaryTerms() {
		r := impl.AddTerm(b, x)
		checkPromise(t, impl.Script{Bank: r.Bank, Commands: []impl.Command{{Kind: impl.CmdValue, Ids: []int{r.Id}}}})
	}
}
