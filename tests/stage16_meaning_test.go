package tests

import (
	"math/rand"
	"slices"
	"strconv"
	"strings"
	"testing"

	"loop.example/g00007/impl"
)

// A talkDraw puts levels, checks and questions between assertions.
type talkDraw struct {
	r     *rand.Rand
	s     impl.Script
	bools []int
	open  int
}

func (d *talkDraw) add(c impl.Command) { d.s.Commands = append(d.s.Commands, c) }

func (d *talkDraw) move() {
	switch n := 1 + d.r.Intn(3); d.r.Intn(5) {
	case 0:
		if d.open+n <= impl.MaxLevels {
			d.open += n
			d.add(impl.Command{Kind: impl.CmdPush, Num: n})
		}
	case 1:
		if n <= d.open {
			d.open -= n
			d.add(impl.Command{Kind: impl.CmdPop, Num: n})
		}
	}
}

func (d *talkDraw) ask() {
	if d.r.Intn(4) == 0 {
		d.add(impl.Command{Kind: impl.CmdSteps, Num: []int{0, 1, 8, 40, 20000, 20000, 999999}[d.r.Intn(7)]})
	}
	check := impl.Command{Kind: impl.CmdCheck}
	for range d.r.Intn(3) {
		check.Ids = append(check.Ids, d.bools[d.r.Intn(len(d.bools))])
	}
	d.add(check)
	for range d.r.Intn(7) {
		c := impl.Command{Kind: impl.CmdValue + d.r.Intn(6)}
		switch c.Kind {
		case impl.CmdValue:
			for range 1 + d.r.Intn(5) {
				c.Ids = append(c.Ids, d.r.Intn(len(d.s.Bank.Terms)))
			}
		case impl.CmdEcho:
			c.Text = []string{"", "\"", "a\nb", "sat"}[d.r.Intn(4)]
		case impl.CmdSteps:
			c.Num = []int{0, 1, 40, 20000}[d.r.Intn(4)]
		}
		d.add(c)
	}
}

// drawTalk asks much of a script that asserts, with labels at some assertions.
func drawTalk(r *rand.Rand, s impl.Script) impl.Script {
	d := &talkDraw{r: r, s: impl.Script{Bank: s.Bank}, bools: boolTerms(s.Bank)}
	for i, c := range s.Commands {
		d.move()
		if c.Kind == impl.CmdAssert {
			c.Text = []string{"", "L" + strconv.Itoa(i), "L " + strconv.Itoa(i), strconv.Itoa(i)}[r.Intn(4)]
			d.add(c)
		}
		if r.Intn(4) == 0 {
			d.ask()
		}
	}
	d.ask()
	return d.s
}

// checkAlone is promise 18: a check, with what is asked behind it, is answered as in the script that has just the assertions that stand.
func checkAlone(t *testing.T, s impl.Script) (checks int) {
	t.Helper()
	p := plainTalk{s: s}
	answerTo := func(n int) string { return impl.AnswerScript(impl.Script{Bank: s.Bank, Commands: s.Commands[:n]}) }
	for n, c := range s.Commands {
		if c.Kind != impl.CmdCheck {
			continue
		}
		end := n + 1
		for end < len(s.Commands) && p.lastCheck(end+1) >= 0 {
			end++
		}
		alone := append(p.standing(n), impl.Command{Kind: impl.CmdSteps, Num: p.steps(n)})
		got, isPart := strings.CutPrefix(answerTo(end), answerTo(n))
		if want := impl.AnswerScript(impl.Script{Bank: s.Bank, Commands: append(alone, s.Commands[n:end]...)}); !isPart || got != want {
			t.Fatalf("%s\n%v\ncommands %d to %d are answered\n%s\nwant\n%s", shortBank(s.Bank), s.Commands, n, end, got, want)
		}
		checks++
	}
	return checks
}

// countLines notes what was answered.
func countLines(met map[string]int, kind, answer string) {
	for _, line := range strings.Split(answer, "\n") {
		switch {
		case line == "sat" || line == "unsat" || strings.HasPrefix(line, "unknown"):
			met[kind+" "+line]++
		case line == "(error)":
			met["error"]++
		case line == "()":
			met["nothing"]++
		case strings.HasPrefix(line, "(L") || strings.HasPrefix(line, "(|"):
			met["labels"]++
		case strings.HasPrefix(line, "((define-fun"):
			met["model"]++
			met["rows"] += oneOf(strings.Contains(line, "(ite "))
			met["stores"] += oneOf(strings.Contains(line, "(store (("))
		case strings.HasPrefix(line, "(chain") || strings.HasPrefix(line, "(linear") || strings.HasPrefix(line, "(equal"):
			met["lemma"]++
		case strings.HasPrefix(line, "(("):
			met["values"]++
		}
	}
}

// Scripts of each kind, with levels and all that may be asked: line for line, and promise 18.
func TestStage16Drawn(t *testing.T) {
	r := rand.New(rand.NewSource(161))
	met := map[string]int{}
	kinds := []string{"Bools", "own", "arrays", "Int", "Real", "mix"}
	for range 40 {
		for _, kind := range kinds {
			s := drawTalk(r, parsed(t, scriptOf(r, kind)).Script)
			countLines(met, kind, checkScript(t, s))
			met["checks alone"] += checkAlone(t, s)
		}
	}
	for _, kind := range kinds {
		mustBeMet(t, met, 5, kind+" sat", kind+" unsat", kind+" unknown (steps)")
	}
	mustBeMet(t, met, 10, "error", "nothing", "labels", "model", "rows", "stores", "lemma", "values", "checks alone")
}

// Scripts over banks of all operations, that no text was read for.
func TestStage16DrawnScripts(t *testing.T) {
	r := rand.New(rand.NewSource(162))
	met := map[string]int{}
	for n := range 150 {
		s := drawScript(r)
		if n%2 == 0 {
			b := mixBank(t, r)
			if len(b.Terms) < 2 || b.Terms[0].Op != impl.OpTrue || b.Terms[1].Op != impl.OpFalse {
				continue
			}
			s = impl.Script{Bank: b}
			for _, id := range drawAsks(r, b, 8) {
				s.Commands = append(s.Commands, impl.Command{Kind: impl.CmdAssert, Ids: []int{id}})
			}
			s = drawTalk(r, s)
		}
		for i := range s.Commands { // great steps take their time
			s.Commands[i].Num = min(s.Commands[i].Num, 3000)
		}
		if !impl.GoodScript(s) {
			t.Fatalf("%v is no good script", s.Commands)
		}
		countLines(met, "drawn", checkScript(t, s))
		met["checks alone"] += checkAlone(t, s)
	}
	mustBeMet(t, met, 10, "drawn sat", "drawn unsat", "drawn unknown (steps)", "drawn unknown (size)", "error", "model", "values", "checks alone")
}

// valueOfTerm reads what a value is written as.
func valueOfTerm(x plainNode) string {
	switch x.Kind {
	case impl.NodBits:
		return "#b" + x.Text
	case impl.NodDec:
		return strings.TrimSuffix(x.Text, ".0")
	case impl.NodList:
		return valueOfList(x.kids)
	}
	return x.Text
}

func valueOfList(kids []plainNode) string {
	switch kids[0].Text {
	case "-":
		return "-" + valueOfTerm(kids[1])
	case "/":
		return valueOfTerm(kids[1]) + "/" + valueOfTerm(kids[2])
	case "as":
		return kids[1].Text
	case "store":
		return strings.TrimSuffix(valueOfTerm(kids[1]), "}") + ";" + valueOfTerm(kids[2]) + "=" + valueOfTerm(kids[3]) + "}"
	}
	return "{" + valueOfTerm(kids[1]) + "}" // ((as const SORT) VALUE)
}

// readModel reads what CmdModel tells.
func readModel(t *testing.T, line string) (m impl.Model) {
	t.Helper()
	for _, told := range plainTrees(impl.ReadTree(line).Nodes)[0].kids {
		in := impl.Interp{Name: told.kids[1].Text}
		body := told.kids[4]
		for len(body.kids) > 0 && body.kids[0].Text == "ite" {
			parts := []plainNode{body.kids[1]}
			if parts[0].kids[0].Text == "and" {
				parts = parts[0].kids[1:]
			}
			row := impl.Row{Val: valueOfTerm(body.kids[2])}
			for i, part := range parts {
				if part.kids[1].Text != "x"+strconv.Itoa(i) || part.kids[1].Text != told.kids[2].kids[i].kids[0].Text {
					t.Fatalf("%s: parameter %d", line, i)
				}
				row.Args = append(row.Args, valueOfTerm(part.kids[2]))
			}
			in.Rows = append(in.Rows, row)
			body = body.kids[3]
		}
		in.Rest = valueOfTerm(body)
		m.Interps = append(m.Interps, in)
	}
	return m
}

// checkToldModel reads the model of a script that is sat, and the values of all its terms: all that is asked holds in it.
func checkToldModel(t *testing.T, c verdictCase, met map[string]int) {
	t.Helper()
	s := impl.Script{Bank: c.b, Commands: []impl.Command{{Kind: impl.CmdCheck, Ids: c.asks}, {Kind: impl.CmdModel}, {Kind: impl.CmdValue, Ids: upTo(len(c.b.Terms))}}}
	all := strings.Split(checkScript(t, s), "\n")
	if all[1] == "(error)" {
		met["no model"]++
		return
	}
	m := readModel(t, all[1])
	if !impl.GoodModel(c.b, m) || !impl.Holds(c.b, m, c.asks) {
		t.Fatalf("%s\nasks %v: %s", shortBank(c.b), c.asks, all[1])
	}
	if all[2] == "(error)" {
		met["no values"]++
		return
	}
	values := impl.Eval(c.b, m)
	for id, pair := range plainTrees(impl.ReadTree(all[2]).Nodes)[0].kids {
		if got := valueOfTerm(pair.kids[1]); got != values[id] {
			t.Fatalf("%s: %s, want %s", impl.TermText(c.b, id), got, values[id])
		}
	}
	met["values"]++
}

// checkToldProof reads the core and the proof of a script that is unsat: the checker takes them, and the core alone is not sat.
func checkToldProof(t *testing.T, c verdictCase, met map[string]int) {
	t.Helper()
	s := impl.Script{Bank: c.b}
	for i, id := range c.asks {
		s.Commands = append(s.Commands, impl.Command{Kind: impl.CmdAssert, Ids: []int{id}, Text: "ask " + strconv.Itoa(i)})
	}
	s.Commands = append(s.Commands, impl.Command{Kind: impl.CmdCheck}, impl.Command{Kind: impl.CmdCore}, impl.Command{Kind: impl.CmdProof})
	all := strings.SplitN(checkScript(t, s), "\n", 3)
	var core []int
	for _, label := range strings.Split(all[1], "|") {
		if number, isLabel := strings.CutPrefix(label, "ask "); isLabel {
			n, _ := strconv.Atoi(number)
			core = append(core, n)
		}
	}
	if all[2] == "(error)\n" {
		met["no proof"]++
		return
	}
	text := strings.TrimSuffix(strings.TrimPrefix(all[2], "(\n"), ")\n")
	isRead, proof := impl.ReadProof(text)
	if isRead != (text != "") || !impl.CheckProof(c.b, c.asks, core, proof) {
		t.Fatalf("%s\nasks %v: core %v, proof\n%s", shortBank(c.b), c.asks, core, text)
	}
	alone := impl.Script{Bank: c.b, Commands: []impl.Command{{Kind: impl.CmdCheck, Ids: c.asksOf(core)}}}
	if got := impl.AnswerScript(alone); got == "sat\n" {
		t.Fatalf("%s\nasks %v: the core %v is sat", shortBank(c.b), c.asks, core)
	}
	met["proof"]++
	met["core of some"] += oneOf(len(core) > 0 && len(core) < len(c.asks))
}

// What is told is so: a model that is read holds, a proof that is read is taken (promises 14, 17 and 19, by texts alone).
func TestStage16Told(t *testing.T) {
	r := rand.New(rand.NewSource(163))
	met := map[string]int{}
	kinds := []string{"Bools", "own", "arrays", "Int", "Real", "mix"}
	for n := range 360 {
		kind := kinds[n%len(kinds)]
		c := readAsks(t, scriptOf(r, kind))
		switch got := impl.AnswerScript(impl.Script{Bank: c.b, Commands: []impl.Command{{Kind: impl.CmdCheck, Ids: c.asks}}}); got {
		case "sat\n":
			checkToldModel(t, c, met)
			met[kind+" sat"]++
		case "unsat\n":
			checkToldProof(t, c, met)
			met[kind+" unsat"]++
		}
	}
	for _, kind := range kinds {
		mustBeMet(t, met, 5, kind+" sat", kind+" unsat")
	}
	mustBeMet(t, met, 50, "values", "proof", "core of some")
}

// equationsIn says of each pair that CmdValue tells that both are equal.
func equationsIn(line string) (equations []string) {
	nodes := impl.ReadTree(line).Nodes
	for at := 1; at < len(nodes); at = ends(nodes, at) {
		pair := strings.Fields(strings.ReplaceAll(impl.WriteTree(nodes[at+1:ends(nodes, at)]), "\n", " "))
		equations = append(equations, "(= "+strings.Join(pair, " ")+")")
	}
	return equations
}

// What is told of a term may be asserted: it is not unsat then. (Of arrays and elements no script can say what is told.)
func TestStage16Asserted(t *testing.T) {
	r := rand.New(rand.NewSource(164))
	met := map[string]int{}
	kinds := []string{"Bools", "Int", "Real", "mix"}
	for n := range 120 {
		text := scriptOf(r, kinds[n%len(kinds)])
		s := parsed(t, text).Script
		ids := slices.DeleteFunc(upTo(len(s.Bank.Terms)), func(id int) bool {
			kind := impl.ReadSort(s.Bank.Sorts, s.Bank.Terms[id].Sort).Kind
			return kind == impl.SortOwn || kind == impl.SortArray || r.Intn(3) > 0
		})
		s.Commands = append(s.Commands, impl.Command{Kind: impl.CmdCheck}, impl.Command{Kind: impl.CmdValue, Ids: append(ids, 0)})
		all := strings.Split(checkScript(t, s), "\n")
		if all[0] != "sat" || all[1] == "(error)" {
			continue
		}
		told := text + asserted(equationsIn(all[1])...)
		if res := parsed(t, told); res.Err != impl.LangOk && res.Err != impl.LangMany {
			t.Fatalf("%s: error %d at %d", told, res.Err, res.At)
		}
		got := impl.Answer(told + "(check-sat)")
		if got == "unsat\n" {
			t.Fatalf("%s\nis %s", told, got)
		}
		met[got]++
	}
	mustBeMet(t, met, 20, "sat\n")
}
