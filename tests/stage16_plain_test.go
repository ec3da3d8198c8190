package tests

import (
	"strconv"
	"strings"
	"testing"

	"loop.example/g00007/impl"
)

// The signatures and the constant that the document gives: a change of one is no longer built.
var (
	_ func(string) string      = impl.Answer
	_ func(impl.Script) string = impl.AnswerScript
	_ [20000]int               = [impl.FirstSteps]int{}
)

// A plainTalk is chapter 16 a second time: each command looks back at all that came ahead of it.
type plainTalk struct {
	s    impl.Script
	said map[int]impl.Verdict // by the number of the check
}

// levels are how many levels are open ahead of each command, and behind the last one.
func (p plainTalk) levels() []int {
	open := []int{0}
	for n, c := range p.s.Commands {
		open = append(open, open[n])
		switch c.Kind {
		case impl.CmdPush:
			open[n+1] += c.Num
		case impl.CmdPop:
			open[n+1] -= c.Num
		}
	}
	return open
}

// standing are the assertions ahead of command n behind which there were never fewer levels open than at them.
func (p plainTalk) standing(n int) (list []impl.Command) {
	open := p.levels()
	for i, c := range p.s.Commands[:n] {
		stands := c.Kind == impl.CmdAssert
		for _, levels := range open[i : n+1] {
			stands = stands && levels >= open[i]
		}
		if stands {
			list = append(list, c)
		}
	}
	return list
}

// lastCheck is the number of the check that counts at command n, -1 for none.
func (p plainTalk) lastCheck(n int) int {
	for n--; n >= 0; n-- {
		switch p.s.Commands[n].Kind {
		case impl.CmdCheck:
			return n
		case impl.CmdAssert, impl.CmdPush, impl.CmdPop:
			return -1
		}
	}
	return -1
}

func (p plainTalk) steps(n int) int {
	for n--; n >= 0; n-- {
		if p.s.Commands[n].Kind == impl.CmdSteps {
			return p.s.Commands[n].Num
		}
	}
	return 20000
}

// verdict is what is said of the check that command n is.
func (p plainTalk) verdict(n int) impl.Verdict {
	v, isKnown := p.said[n]
	if isKnown {
		return v
	}
	var asks []int
	for _, c := range p.standing(n) {
		asks = append(asks, c.Ids[0])
	}
	v = unknown(impl.WhySteps)
	if steps := p.steps(n); steps != 0 {
		v = impl.Solve(p.s.Bank, append(asks, p.s.Commands[n].Ids...), steps)
	}
	p.said[n] = v
	return v
}

// reply is what command n answers, without the end of its line.
func (p plainTalk) reply(n int) (text string, answers bool) {
	c := p.s.Commands[n]
	switch c.Kind {
	case impl.CmdCheck:
		v := p.verdict(n)
		return []string{"bad", "sat", "unsat", "unknown"}[v.Status] + []string{"", " (steps)", " (nodes)", " (size)", " (model)"}[v.Why], true
	case impl.CmdEcho:
		text = `"` + strings.ReplaceAll(c.Text, `"`, `""`) + `"`
	case impl.CmdValue, impl.CmdModel:
		text = p.told(n, impl.VerSat)
	case impl.CmdCore, impl.CmdProof:
		text = p.told(n, impl.VerUnsat)
	default:
		return "", false
	}
	if text == "" || len(text) > 20000 {
		text = "(error)"
	}
	return text, true
}

// told is "" for what is an error.
func (p plainTalk) told(n, status int) string {
	last := p.lastCheck(n)
	if last < 0 || p.verdict(last).Status != status {
		return ""
	}
	v := p.verdict(last)
	switch c := p.s.Commands[n]; c.Kind {
	case impl.CmdValue:
		return plainPairs(p.s.Bank, v.Model, c.Ids)
	case impl.CmdModel:
		return plainDefinitions(p.s.Bank, v.Model)
	case impl.CmdCore:
		var labels []string
		for i, asked := range p.standing(last) {
			for _, number := range v.Core {
				if number == i && asked.Text != "" {
					labels = append(labels, ownText(asked.Text))
				}
			}
		}
		return "(" + strings.Join(labels, " ") + ")"
	}
	proof := impl.ProofText(v.Proof)
	if proof == "" && len(v.Proof) > 0 {
		return ""
	}
	return "(\n" + proof + ")"
}

func plainPairs(b impl.Bank, m impl.Model, ids []int) string {
	values := impl.Eval(b, m)
	var pairs []string
	for _, id := range ids {
		text := impl.TermText(b, id)
		if text == "" || values[id] == "" {
			return ""
		}
		pairs = append(pairs, "("+text+" "+plainAsTerm(b, b.Terms[id].Sort, values[id])+")")
	}
	return "(" + strings.Join(pairs, " ") + ")"
}

// plainAsTerm is a value as a term of its sort.
func plainAsTerm(b impl.Bank, sort, v string) string {
	info := impl.ReadSort(b.Sorts, sort)
	switch info.Kind {
	case impl.SortInt, impl.SortReal:
		return plainNumber(sort, v)
	case impl.SortOwn:
		return "(as " + v + " " + sort + ")"
	case impl.SortArray:
		a := cutArray(v)
		head, tail := "((as const "+sort+") "+plainAsTerm(b, info.Elem, a.rest)+")", ""
		for _, at := range a.ats {
			head = "(store " + head
			tail += " " + plainAsTerm(b, info.Index, at) + " " + plainAsTerm(b, info.Elem, a.is[at]) + ")"
		}
		return head + tail
	}
	return v
}

func plainDefinitions(b impl.Bank, m impl.Model) string {
	var all []string
	for i, f := range b.Funs {
		var params []string
		for k, sort := range f.Args {
			params = append(params, "(x"+strconv.Itoa(k)+" "+sort+")")
		}
		all = append(all, "(define-fun "+ownText(f.Name)+" ("+strings.Join(params, " ")+") "+f.Sort+" "+plainBody(b, f, m.Interps[i].Rows, m.Interps[i].Rest)+")")
	}
	return "(" + strings.Join(all, " ") + ")"
}

func plainBody(b impl.Bank, f impl.Fun, rows []impl.Row, rest string) string {
	if len(rows) == 0 {
		return plainAsTerm(b, f.Sort, rest)
	}
	var parts []string
	for k, sort := range f.Args {
		parts = append(parts, "(= x"+strconv.Itoa(k)+" "+plainAsTerm(b, sort, rows[0].Args[k])+")")
	}
	condition := strings.Join(parts, " ")
	if len(parts) > 1 {
		condition = "(and " + condition + ")"
	}
	return "(ite " + condition + " " + plainAsTerm(b, f.Sort, rows[0].Val) + " " + plainBody(b, f, rows[1:], rest) + ")"
}

// checkScript holds the answer against the chapter written a second time.
func checkScript(t *testing.T, s impl.Script) string {
	t.Helper()
	kept := copiedScript(s)
	got := impl.AnswerScript(s)
	if !sameScript(s, kept) {
		t.Fatalf("what was handed in is changed: %v", kept.Commands)
	}
	want := ""
	if impl.GoodScript(s) {
		p := plainTalk{s, map[int]impl.Verdict{}}
		for n := range s.Commands {
			if text, answers := p.reply(n); answers {
				want += text + "\n"
			}
		}
	}
	if got != want {
		t.Fatalf("%s\n%v\nanswered\n%s\nwant\n%s", shortBank(s.Bank), s.Commands, got, want)
	}
	return got
}

// checkTalk is for a text.
func checkTalk(t *testing.T, text string) string {
	t.Helper()
	got := impl.Answer(text)
	res := parsed(t, text)
	want := "(error " + strconv.Itoa(res.Err) + " " + strconv.Itoa(res.Tree) + " " + strconv.Itoa(res.At) + ")\n"
	if res.Err == impl.LangOk {
		want = checkScript(t, res.Script)
	}
	if got != want {
		t.Fatalf("%s\nanswered\n%s\nwant\n%s", short(text), got, want)
	}
	return got
}

// A talkRow is a text, and the lines that answer it.
type talkRow struct {
	text  string
	lines []string
}

func lines(list ...string) []string { return list }

// checkTalks is for answers that were worked out by hand.
func checkTalks(t *testing.T, declared string, rows []talkRow) {
	t.Helper()
	for _, row := range rows {
		want := ""
		for _, line := range row.lines {
			want += line + "\n"
		}
		if got := checkTalk(t, declared+row.text); got != want {
			t.Errorf("%s\nanswered\n%s\nwant\n%s", row.text, got, want)
		}
	}
}
