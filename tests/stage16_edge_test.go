package tests

import (
	"fmt"
	"slices"
	"strconv"
	"strings"
	"testing"

	"loop.example/g00007/impl"
)

// Levels that are pushed, popped, and popped several at once.
func TestStage16Levels(t *testing.T) {
	checkTalks(t, boolConsts, []talkRow{
		{"(assert p)(push 1)(assert (not p))(check-sat)(pop 1)(check-sat)(check-sat-assuming ((not p)))", lines("unsat", "sat", "unsat")},
		{"(push 1)(assert p)(check-sat-assuming ((not p)))(pop 1)(check-sat-assuming ((not p)))", lines("unsat", "sat")},
		// what stands ahead of all levels is never popped
		{"(assert (not p))(push 3)(pop 2)(check-sat-assuming (p))(pop 1)(check-sat-assuming (p))", lines("unsat", "unsat")},
		// of three levels one, two and three are popped
		{"(push 1)(assert p)(push 1)(assert q)(push 1)(assert r)(pop 1)(check-sat-assuming ((not p)))(check-sat-assuming ((not q)))(check-sat-assuming ((not r)))", lines("unsat", "unsat", "sat")},
		{"(push 1)(assert p)(push 1)(assert q)(push 1)(assert r)(pop 2)(check-sat-assuming ((not p)))(check-sat-assuming ((not q)))(check-sat-assuming ((not r)))", lines("unsat", "sat", "sat")},
		{"(push 1)(assert p)(push 1)(assert q)(push 1)(assert r)(pop 3)(check-sat-assuming ((not p)))(check-sat-assuming ((not q)))(check-sat-assuming ((not r)))", lines("sat", "sat", "sat")},
		// a push of several opens empty levels below the last one
		{"(push 3)(assert p)(pop 1)(check-sat-assuming ((not p)))", lines("sat")},
		{"(push 1)(assert p)(push 2)(pop 2)(check-sat-assuming ((not p)))(pop 1)(check-sat-assuming ((not p)))", lines("unsat", "sat")},
		{"(push 2)(assert p)(push 2)(assert q)(pop 1)(check-sat-assuming ((not q)))(check-sat-assuming ((not p)))(pop 2)(check-sat-assuming ((not p)))", lines("sat", "unsat", "sat")},
		// behind a pop others come in the place of those that were popped
		{"(push 1)(assert (! p :named a))(assert (! q :named b))(pop 1)(assert (! (not p) :named c))(assert (! p :named d))(check-sat)(get-unsat-core)", lines("unsat", "(c d)")},
		{"(assert (! r :named z))(push 1)(assert (! p :named a))(pop 1)(push 1)(assert (! q :named b))(pop 1)(push 1)(assert (! (not r) :named c))(check-sat)(get-unsat-core)(pop 1)(check-sat)(get-value (p q r))", lines("unsat", "(z c)", "sat", "((p false) (q false) (r true))")},
		// what is assumed is so for this check alone
		{"(check-sat-assuming (p (not p)))(check-sat)(check-sat-assuming (p))(get-value (p))(check-sat-assuming ((not p)))(get-value (p))", lines("unsat", "sat", "sat", "((p true))", "sat", "((p false))")},
		{fmt.Sprintf("(push %d)(assert false)(check-sat)(pop %d)(check-sat)(push %d)(check-sat)", impl.MaxLevels, impl.MaxLevels, impl.MaxLevels), lines("unsat", "sat", "sat")},
		{fmt.Sprintf("(push %d)(push 1)", impl.MaxLevels), lines(fmt.Sprintf("(error 6 0 %d)", len(boolConsts)+9))},
		{"(pop 1)", lines(fmt.Sprintf("(error 6 0 %d)", len(boolConsts)))},
	})
}

// All levels that there may be, with an assertion in each: just those of open levels are true.
func TestStage16AllLevels(t *testing.T) {
	text, want := declaredConsts("c", "Bool", impl.MaxLevels), ""
	names := joinedNames("c", 0, impl.MaxLevels)
	met := 0
	var labels []string // of the open levels
	for _, move := range []int{10, 10, 10, 10, 10, -1, 1, -25, 20, -1, -44, 7, -7} {
		for range move {
			open := len(labels)
			label := ""
			if open == met { // a label stands once in a script
				met++
				label = "L" + strconv.Itoa(open)
				text += fmt.Sprintf("(push 1)(assert (! c%d :named %s))", open, label)
			} else {
				text += fmt.Sprintf("(push 1)(assert c%d)", open)
			}
			labels = append(labels, label)
		}
		if move < 0 {
			text += fmt.Sprintf("(pop %d)", -move)
			labels = labels[:len(labels)+move]
		}
		text += "(check-sat)(get-value (" + names + "))"
		var pairs []string
		for i := range impl.MaxLevels {
			pairs = append(pairs, fmt.Sprintf("(c%d %v)", i, i < len(labels)))
		}
		want += "sat\n(" + strings.Join(pairs, " ") + ")\n"
		if last := len(labels) - 1; last >= 0 {
			text += fmt.Sprintf("(check-sat-assuming ((not c%d)))(get-unsat-core)", last)
			want += "unsat\n(" + labels[last] + ")\n"
		}
	}
	if got := checkTalk(t, text); got != want {
		t.Errorf("answered\n%s\nwant\n%s", got, want)
	}
}

// What set-steps says holds from there on, FirstSteps before any.
func TestStage16Steps(t *testing.T) {
	checkTalks(t, "", []talkRow{
		{"(set-steps 0)(check-sat)", lines("unknown (steps)")},
		{"(check-sat)(set-steps 0)(check-sat)(set-steps 1)(check-sat)(set-steps 0)(check-sat)(set-steps 999999)(check-sat)", lines("sat", "unknown (steps)", "sat", "unknown (steps)", "sat")},
		// with 0 nothing is searched, not even what is told at once, or too great
		{"(declare-const p Bool)(set-steps 0)(check-sat-assuming (p (not p)))(set-steps 1)(check-sat-assuming (p (not p)))(check-sat-assuming (p))(set-steps 2)(check-sat-assuming (p))", lines("unknown (steps)", "unsat", "unknown (steps)", "sat")},
		{sizeText(60, 30) + "(set-steps 0)(check-sat)(set-steps 1)(check-sat)(set-steps 200)(check-sat)", lines("unknown (steps)", "unknown (steps)", "unknown (size)")},
		// levels have no steps of their own
		{"(push 1)(set-steps 0)(pop 1)(check-sat)(push 1)(set-steps 1)(check-sat)(pop 1)(check-sat)", lines("unknown (steps)", "sat", "sat")},
		{pigeons(3) + "(set-steps 122)(check-sat)(set-steps 123)(check-sat)(set-steps 1)(get-proof)(check-sat)(get-proof)", append(strings.Split("unknown (steps)\nunsat\n(\n"+strings.TrimSuffix(proofTextOf(t, pigeons(3)), "\n"), "\n"), ")", "unknown (steps)", "(error)")},
		{pigeons(6) + "(check-sat)", lines("unknown (steps)")},
		{pigeons(6) + "(set-steps 100199)(check-sat)(set-steps 100200)(check-sat)(set-steps 20000)(check-sat)", lines("unknown (steps)", "unsat", "unknown (steps)")},
	})
}

func proofTextOf(t *testing.T, text string) string {
	t.Helper()
	c := readAsks(t, text)
	return impl.ProofText(impl.Solve(c.b, c.asks, impl.MaxSteps).Proof)
}

// mixedWords is an exclusive or of words, every step-th one of those below n.
func mixedWords(n, step int) string {
	text, ends := "", ""
	for i := 0; i+step < n; i += step {
		text += "(bvxor s" + strconv.Itoa(i) + " "
		ends += ")"
	}
	return text + "s" + strconv.Itoa((n-1)/step*step) + ends
}

// stepsText is sat in so many steps: nothing is in conflict, so each variable takes one. These are the true one, p, those of 150 words and
// of 149 and 13 words of gates, and the Bools that are left over.
func stepsText(steps int) string {
	bools := steps - 2 - 64*(150+149+13)
	text := "(declare-const p Bool)" + declaredConsts("s", bitsOf(64), 150) + declaredConsts("q", "Bool", bools) + "(assert p)"
	for _, words := range []string{mixedWords(150, 1), mixedWords(27, 2)} {
		text += "(assert (or p (bvult " + words + " #x0000000000000000)))"
	}
	for i := range bools {
		text += "(assert q" + strconv.Itoa(i) + ")"
	}
	return text
}

// A check takes exactly FirstSteps, and one more.
func TestStage16FirstSteps(t *testing.T) {
	for _, steps := range []int{impl.FirstSteps - 1, impl.FirstSteps, impl.FirstSteps + 1} {
		text := stepsText(steps)
		p := readAsks(t, text).problem()
		if f := impl.Search(p.Bank, p.Roots, p.Asks, p.Shared, impl.MaxSteps); f.Status != impl.SearchSat || f.Steps != steps {
			t.Fatalf("status %d in %d steps, want %d", f.Status, f.Steps, steps)
		}
		first := "sat"
		if steps > 20000 {
			first = "unknown (steps)"
		}
		checkTalks(t, text, []talkRow{{fmt.Sprintf("(check-sat)(set-steps %d)(check-sat)(set-steps %d)(check-sat)", steps, steps-1), lines(first, "sat", "unknown (steps)")}})
	}
}

// What counts as the last check: behind it commands that answer, and set-steps, but no other.
func TestStage16LastCheck(t *testing.T) {
	answering := `(get-value (p))(get-model)(get-unsat-core)(get-proof)(echo "a")(set-steps 0)(set-steps 7)`
	sat := lines("((p true))", "((define-fun p () Bool true))", "(error)", "(error)", `"a"`)
	unsat := lines("(error)", "(error)", "(A)", "(\n)", `"a"`)
	none := lines("(error)", "(error)", "(error)", "(error)", `"a"`)
	p, no := "(declare-const p Bool)(assert p)", "(assert (! (not p) :named A))"
	checkTalks(t, p, []talkRow{
		{answering, none},
		{"(check-sat)" + answering, append(lines("sat"), sat...)},
		{"(check-sat)" + answering + answering, slices.Concat(lines("sat"), sat, sat)},
		{no + "(check-sat)" + answering + answering, slices.Concat(lines("unsat"), unsat, unsat)},
		{"(set-steps 0)(check-sat)" + answering + answering, slices.Concat(lines("unknown (steps)"), none, none)},
		// of several checks the last one
		{"(check-sat)(check-sat-assuming (false))(check-sat)" + answering, append(lines("sat", "unsat", "sat"), sat...)},
		{"(check-sat)(set-steps 0)(check-sat)" + answering, append(lines("sat", "unknown (steps)"), none...)},
		{"(check-sat)(check-sat-assuming (false))(get-model)(get-unsat-core)", lines("sat", "unsat", "(error)", "()")},
		{"(check-sat-assuming (false))(check-sat)(get-unsat-core)(get-value (p))", lines("unsat", "sat", "(error)", "((p true))")},
		// any other command ends it, whatever it changes
		{"(check-sat)(assert true)" + answering, append(lines("sat"), none...)},
		{"(check-sat)(assert p)" + answering, append(lines("sat"), none...)},
		{"(check-sat)(push 1)" + answering, append(lines("sat"), none...)},
		{"(check-sat)(push 1)(pop 1)" + answering, append(lines("sat"), none...)},
		{"(push 1)(check-sat)(pop 1)" + answering, append(lines("sat"), none...)},
		{no + "(check-sat)(push 1)" + answering, append(lines("unsat"), none...)},
		{"(push 2)" + no + "(check-sat)(pop 1)" + answering, append(lines("unsat"), none...)},
		{no + "(check-sat)(assert true)" + answering, append(lines("unsat"), none...)},
		// and the next one counts again
		{"(check-sat)(push 1)" + answering + "(check-sat)" + answering, slices.Concat(lines("sat"), none, lines("sat"), sat)},
		{"(push 1)(check-sat)(assert false)(get-model)(check-sat)(get-proof)(pop 1)(get-proof)(check-sat)(get-proof)(get-model)", lines("sat", "(error)", "unsat", "(", "(chain (1) (0) ())", ")", "(error)", "sat", "(error)", "((define-fun p () Bool true))")},
	})
}

// Each command that answers behind each status, and with no check at all.
func TestStage16Errors(t *testing.T) {
	asks := "(get-value (p))(get-model)(get-unsat-core)(get-proof)"
	checkTalks(t, "", []talkRow{
		{"(declare-const p Bool)" + asks, lines("(error)", "(error)", "(error)", "(error)")},
		{"(declare-const p Bool)(check-sat)" + asks, lines("sat", "((p false))", "((define-fun p () Bool false))", "(error)", "(error)")},
		{"(declare-const p Bool)(check-sat-assuming (p (not p)))" + asks, lines("unsat", "(error)", "(error)", "()", "(", ")")},
		{"(declare-const p Bool)(set-steps 0)(check-sat)" + asks, lines("unknown (steps)", "(error)", "(error)", "(error)", "(error)")},
		{"(declare-const p Bool)" + stripText(60) + "(check-sat)" + asks, lines("unknown (nodes)", "(error)", "(error)", "(error)", "(error)")},
		{"(declare-const p Bool)" + sizeText(60, 30) + "(check-sat)" + asks, lines("unknown (size)", "(error)", "(error)", "(error)", "(error)")},
		{pigeons(5) + "(declare-const p Bool)(set-steps 50)(check-sat)" + asks, lines("unknown (steps)", "(error)", "(error)", "(error)", "(error)")},
		{tableText(impl.TableMax+1, 0) + "(declare-const p Bool)(check-sat)" + asks, lines("unknown (size)", "(error)", "(error)", "(error)", "(error)")},
	})
}

// A text with an error of each kind: one line, whatever stands ahead of it.
func TestStage16WrongTexts(t *testing.T) {
	checkTalks(t, "", []talkRow{
		// the tree: its own error, and its own place
		{strings.Repeat(" ", impl.TextMax+1), lines("(error 1 1 0)")}, {"(check-sat)" + strings.Repeat(" ", impl.TextMax-11), lines("sat")}, {"(check-sat)" + strings.Repeat(" ", impl.TextMax-10), lines("(error 1 1 0)")},
		{"(assert 01)", lines("(error 1 2 8)")}, {"(check-sat)\x00", lines("(error 1 2 11)")}, {`(echo "a`, lines("(error 1 2 6)")}, {"(assert", lines("(error 1 3 0)")}, {"(check-sat)(assert (not true)", lines("(error 1 3 11)")}, {"(check-sat))", lines("(error 1 4 11)")},
		{strings.Repeat("1 ", impl.TreeMax+1), lines(fmt.Sprintf("(error 1 5 %d)", 2*impl.TreeMax))}, {strings.Repeat("(", impl.TreeDeep+1), lines(fmt.Sprintf("(error 1 6 %d)", impl.TreeDeep))},
		// the form, names, sorts, terms, limits
		{"(zoo)", lines("(error 2 0 0)")}, {"(check-sat)(get-value ())", lines("(error 2 0 11)")}, {"(check-sat)\n(set-steps 1000000)", lines("(error 2 0 12)")}, {"a", lines("(error 2 0 0)")},
		{"(assert zoo)", lines("(error 3 0 8)")}, {"(declare-const and Int)", lines("(error 3 0 15)")}, {"(declare-const x Zoo)", lines("(error 4 0 17)")}, {"(declare-fun f (Bool) Int)", lines("(error 4 0 0)")}, {"(assert 5)", lines("(error 5 0 8)")}, {"(assert (< 1 2.0))", lines("(error 5 0 8)")},
		{"(pop 1)", lines("(error 6 0 0)")}, {strings.Repeat("(check-sat)", impl.MaxCommands+1), lines(fmt.Sprintf("(error 6 0 %d)", 11*impl.MaxCommands))},
		// nothing of what was right is answered, nor what comes behind
		{`(echo "a")(check-sat)(get-model)(zoo)(check-sat)`, lines("(error 2 0 32)")}, {"(check-sat)(assert zoo)(assert", lines("(error 1 3 23)")},
	})
	for _, f := range slices.Concat(faultyForms(), faultyCommands()) {
		if got, want := checkTalk(t, ready+f.bare()), fmt.Sprintf("(error %d 0 %d)\n", f.err, len(ready)+f.at()); got != want {
			t.Errorf("%s: %s, want %s", short(f.text), short(got), want)
		}
	}
	ahead := ready + "(check-sat)(get-value ("
	for _, f := range faultyTerms() {
		if len(ahead)+len(f.text) > impl.TextMax {
			continue
		}
		if got, want := checkTalk(t, ahead+f.bare()+"))"), fmt.Sprintf("(error %d 0 %d)\n", f.err, len(ahead)+f.at()); got != want {
			t.Errorf("%s: %s, want %s", short(f.text), short(got), want)
		}
	}
}

// Scripts that are not good have no answer, whatever else they ask.
func TestStage16WrongScripts(t *testing.T) {
	if got := checkScript(t, goodScript()); strings.Count(got, "\n") < 8 {
		t.Fatalf("%s", got)
	}
	for i, s := range append(noScripts(), impl.Script{}, impl.Script{Commands: []impl.Command{{Kind: impl.CmdCheck}}}) {
		if got := checkScript(t, s); got != "" {
			t.Errorf("script %d: %s", i, got)
		}
		s.Commands = append([]impl.Command{{Kind: impl.CmdEcho, Text: "first"}, {Kind: impl.CmdCheck}}, s.Commands...)
		if impl.GoodScript(s) {
			continue // what was wrong was where it stood
		}
		if got := checkScript(t, s); got != "" {
			t.Errorf("script %d: %s", i, got)
		}
	}
	for _, b := range noBanks(t) {
		if got := checkScript(t, impl.Script{Bank: b, Commands: []impl.Command{{Kind: impl.CmdCheck}, {Kind: impl.CmdModel}}}); got != "" {
			t.Errorf("%s: %s", shortBank(b), got)
		}
	}
	if got := checkScript(t, impl.Script{Bank: impl.NewBank()}); got != "" {
		t.Errorf("nothing is asked: %s", got)
	}
}

// As many commands as there may be, and one more; lists that are empty, and not nil.
func TestStage16Limits(t *testing.T) {
	for n, want := range map[int]string{impl.MaxCommands - 1: strings.Repeat("sat\n", impl.MaxCommands-1), impl.MaxCommands: strings.Repeat("sat\n", impl.MaxCommands), impl.MaxCommands + 1: ""} {
		if got := checkScript(t, impl.Script{Bank: impl.NewBank(), Commands: slices.Repeat([]impl.Command{{Kind: impl.CmdCheck, Ids: []int{}}}, n)}); got != want {
			t.Errorf("%d checks: %s", n, short(got))
		}
	}
	// a core of 151 labels: each assertion is needed
	text := declaredConsts("p", "Bool", 100) + declaredConsts("r", "Bool", 50)
	var labels, parts []string
	assert := func(label, term string) {
		labels = append(labels, label)
		text += "(assert (! " + term + " :named " + label + "))"
	}
	for i := range 100 {
		assert(fmt.Sprintf("|%058d|", i), fmt.Sprintf("p%d", i))
	}
	for i := range 50 {
		assert(fmt.Sprintf("M%d", i), fmt.Sprintf("(or (not p%d) (not p%d) r%d)", 2*i, 2*i+1, i))
		parts = append(parts, fmt.Sprintf("(not r%d)", i))
	}
	assert("|the last|", "(or "+strings.Join(parts, " ")+")")
	if got, want := checkTalk(t, text+"(check-sat)(get-unsat-core)"), "unsat\n("+strings.Join(labels, " ")+")\n"; got != want {
		t.Errorf("%s, want %s", got, want)
	}
}

// Two asks of one script are answered the same, and nothing is kept from one script to the next.
func TestStage16Again(t *testing.T) {
	texts := []string{"(declare-const p Bool)(assert p)(set-steps 0)(check-sat)(push 3)", "(declare-const p Bool)(check-sat)(get-value (p))(get-model)", "(get-model)(check-sat)", "(assert false)(check-sat)(get-proof)", "(zoo)"}
	want := []string{"unknown (steps)\n", "sat\n((p false))\n((define-fun p () Bool false))\n", "(error)\nsat\n", "unsat\n(\n(chain (1) (0) ())\n)\n", "(error 2 0 0)\n"}
	for i := range 25 {
		at := i * 7 % 5
		if got := checkTalk(t, texts[at]); got != want[at] {
			t.Errorf("%s: %s", texts[at], got)
		}
	}
}
