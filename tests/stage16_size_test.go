package tests

import (
	"fmt"
	"slices"
	"strings"
	"testing"

	"loop.example/g00007/impl"
)

// checkSized is for a script whose last answer would have so many bytes: it has them, or is an error.
func checkSized(t *testing.T, s impl.Script, size int) {
	t.Helper()
	ahead := checkScript(t, impl.Script{Bank: s.Bank, Commands: s.Commands[:len(s.Commands)-1]})
	last := strings.TrimPrefix(checkScript(t, s), ahead)
	if size > impl.TextMax && last != "(error)\n" || size <= impl.TextMax && len(last) != size+1 {
		t.Errorf("%d bytes: %s has %d", size, short(last), len(last)-1)
	}
	// what comes next is answered whatever this was
	more := impl.Script{Bank: s.Bank, Commands: append(slices.Clone(s.Commands), impl.Command{Kind: impl.CmdEcho, Text: "next"})}
	if got := impl.AnswerScript(more); got != ahead+last+"\"next\"\n" {
		t.Errorf("%d bytes: %s", size, short(got))
	}
}

// nearTextMax are sizes of texts, around the greatest one that there may be.
func nearTextMax() []int {
	return []int{impl.TextMax - 2, impl.TextMax - 1, impl.TextMax, impl.TextMax + 1, impl.TextMax + 2, impl.TextMax + 10}
}

// CmdEcho: of a text alone, and of marks, which are doubled.
func TestStage16LongEcho(t *testing.T) {
	for _, size := range nearTextMax() {
		for _, text := range []string{strings.Repeat("a", size-2), strings.Repeat("\n", size-2), strings.Repeat(`"`, size/2-1) + strings.Repeat("b", size%2), strings.Repeat("a", size-4) + `"`} {
			checkSized(t, impl.Script{Bank: impl.NewBank(), Commands: []impl.Command{{Kind: impl.CmdEcho, Text: text}}}, size)
		}
	}
	checkSized(t, impl.Script{Bank: impl.NewBank(), Commands: []impl.Command{{Kind: impl.CmdEcho, Text: strings.Repeat(`"`, 100000)}}}, 200002)
	// no text of a script has so long an echo
	most := strings.Repeat(`""`, (impl.TextMax-9)/2)
	if got := impl.Answer(`(echo "` + most + `")`); got != `"`+most+"\"\n" {
		t.Errorf("%s", short(got))
	}
}

// valueText asks for p again and again, and then for one more constant, whose name fills the line up.
func valueText(size int) string {
	times := (size - 12) / 10
	name := strings.Repeat("n", size-10-10*times)
	return "(declare-const p Bool)(declare-const " + name + " Bool)(check-sat)(get-value (" + strings.Repeat("p ", times) + name + "))"
}

// sharedText is a term over p that would be doubled so often, were it written out.
func sharedText(times int) string {
	text := "k"
	for range times {
		text = "(let ((k (xor k k))) " + text + ")"
	}
	return "(let ((k p)) " + text + ")"
}

func TestStage16LongValues(t *testing.T) {
	for _, size := range nearTextMax() {
		checkTalk(t, valueText(size))
		checkSized(t, parsed(t, valueText(size)).Script, size)
	}
	// far too much, of terms that share their kids and of many: it is an error at once
	for _, ids := range []string{"d", "p d", strings.Repeat("d ", 4000), strings.Repeat("p ", 4000)} {
		text := "(declare-const p Bool)(define-fun d () Bool " + sharedText(90) + ")(check-sat)(get-value (" + ids + "))(get-value (p))"
		if got := impl.Answer(text); got != "sat\n(error)\n((p false))\n" {
			t.Errorf("%s", short(got))
		}
	}
	s := parsed(t, "(declare-const p Bool)(check-sat)(get-value (p))").Script
	s.Commands[1].Ids = slices.Repeat([]int{0, 1, 2}, 100000)
	if got := impl.AnswerScript(s); got != "sat\n(error)\n" {
		t.Errorf("%s", short(got))
	}
}

// constsText declares Bools, the names of which make a model's line so long.
func constsText(size int) string {
	const count = 250
	left := size - 1 - count*len("(define-fun  () Bool false) ")
	text := ""
	for i := range count {
		digits := left/(count-i) - 1
		left -= digits + 1
		text += fmt.Sprintf("(declare-const n%0*d Bool)", digits, i)
	}
	return text
}

func TestStage16LongModels(t *testing.T) {
	for _, size := range nearTextMax() {
		checkSized(t, parsed(t, constsText(size)+"(check-sat)(get-model)").Script, size)
	}
	// many rows: the name of a sort stands in each of them twice
	sort := "|" + strings.Repeat("U ", impl.MaxSym/2) + "|"
	for rows, isTold := range map[int]bool{1: true, 50: true, 70: false, 130: false} {
		text := "(declare-sort " + sort + " 0)(declare-fun P (" + sort + " " + sort + ") Bool)" + declaredConsts("c", sort, rows)
		for i := range rows {
			text += fmt.Sprintf("(assert (P c%d c%d))", i, i)
		}
		got := checkTalk(t, text+"(check-sat)(get-model)(get-value (c0))")
		if isTold && strings.Count(got, "(ite (and (= x0 (as @") != rows || !isTold && got != "sat\n(error)\n((c0 (as @0 "+sort+")))\n" {
			t.Errorf("%d rows: %s", rows, short(got))
		}
	}
}

// climbText says that each number is at least so many digits greater than the one ahead of it, and the first one at least 1.
func climbText(name string, digits []int) string {
	text := fmt.Sprintf("(declare-const %s0 Real)(assert (<= 1.0 %s0))", name, name)
	for i, n := range digits {
		text += fmt.Sprintf("(declare-const %s%d Real)(assert (<= (* %s.0 %s%d) %s%d))", name, i+1, tenTo(n), name, i, name, i+1)
	}
	return text
}

// climbsText has a proof with eight contradictions of long numbers; one of them has so many digits more.
func climbsText(digits int) string {
	steps := append(slices.Repeat([]int{27}, 12), 29, 27)
	text := climbText("x", steps) + climbText("y", []int{digits, 20, 20, 20}) + "(assert (or"
	for i := range 7 {
		text += fmt.Sprintf(" (<= (+ x14 (* %d.0 x13)) 0.0)", i+1)
	}
	return text + " (<= y4 0.0)))"
}

// CmdProof: the brackets and the line end ahead count, too.
func TestStage16LongProofs(t *testing.T) {
	for digits := 17; digits <= 24; digits++ {
		text := climbsText(digits)
		size := impl.TextMax - 22 + digits
		proof := proofTextOf(t, text)
		if size <= impl.TextMax && len(proof) != size || size > impl.TextMax && proof != "" {
			t.Fatalf("%d digits: a proof of %d bytes, want %d", digits, len(proof), size)
		}
		want := "unsat\n(error)\n(error)\n()\n"
		if size+3 <= impl.TextMax {
			want = "unsat\n(\n" + proof + ")\n(error)\n()\n"
		}
		if got := checkTalk(t, text+"(check-sat)(get-proof)(get-model)(get-unsat-core)"); got != want {
			t.Errorf("%d digits: %s", digits, short(got))
		}
	}
	checkTalks(t, pigeons(5)+"(check-sat)", []talkRow{{"(get-proof)", lines("unsat", "(error)")}, {"(get-proof)(get-unsat-core)", lines("unsat", "(error)", "()")}})
}

// storesText is m with entries at so many numbers, from 1 on.
func storesText(entries int, elem string) string {
	text := "m"
	for i := range entries {
		text = fmt.Sprintf("(store %s %d %s)", text, i+1, elem)
	}
	return text
}

// checkNoValue is for a term that has no value, or has one: one that has none makes the whole answer an error, wherever it stands.
func checkNoValue(t *testing.T, declared, term string, isNone bool) {
	t.Helper()
	for _, ids := range []string{term, term + " p", "p " + term, "p " + term + " p", "(= " + term + " " + term + ")", "p (ite p " + term + " " + term + ")"} {
		got := checkTalk(t, declared+"(declare-const p Bool)(check-sat)(get-value ("+ids+"))(get-value (p))")
		if isNone != (got == "sat\n(error)\n((p false))\n") || !strings.HasPrefix(got, "sat\n(") || !strings.HasSuffix(got, ")\n((p false))\n") {
			t.Errorf("%s: %s", short(ids), short(got))
		}
	}
}

// An array of too many entries, or of too many bytes, has no value, and what is made of it neither.
func TestStage16NoArray(t *testing.T) {
	declared := "(declare-const m (Array Int Int))(declare-const k (Array (_ BitVec 5) Int))(declare-const l (Array (_ BitVec 6) Int))"
	checkNoValue(t, declared, storesText(impl.EntryMax, "7"), false)
	checkNoValue(t, declared, storesText(impl.EntryMax+1, "7"), true)
	checkNoValue(t, declared, "(select "+storesText(impl.EntryMax, "7")+" 3)", false)
	checkNoValue(t, declared, "(select "+storesText(impl.EntryMax+1, "7")+" 3)", true)
	checkNoValue(t, declared, "(ite p "+storesText(impl.EntryMax+1, "7")+" m)", true)
	// one that is put twice is one entry, and one that gives the rest is none
	checkNoValue(t, declared, "(store "+storesText(impl.EntryMax, "7")+" 9 8)", false)
	checkNoValue(t, declared, "(store "+storesText(impl.EntryMax, "7")+" 99 0)", false)
	// exactly ValueMax bytes, and one more
	checkNoValue(t, declared, "(store "+storesText(58, nines(30))+" 59 "+nines(30)+")", false)
	checkNoValue(t, declared, "(store "+storesText(58, nines(30))+" 59 (- "+nines(30)+"))", true)
	// what stood at all but one index
	checkNoValue(t, declared, "(store k #b00000 4)", false)
	checkNoValue(t, declared, "(store l #b000000 4)", true)
	checkNoValue(t, declared, "(store l #b000000 0)", false)
	// a part of an ask that falls away and has no value: whatever Solve makes of it, the line says why
	ask := "(or true (= m " + storesText(impl.EntryMax+1, "7") + "))"
	c := readAsks(t, declared+asserted(ask))
	if v := impl.Solve(c.b, c.asks, impl.FirstSteps); v.Why == impl.WhyModel {
		checkTalks(t, declared, []talkRow{{asserted(ask) + "(check-sat)(get-model)(get-value (m))(get-unsat-core)(get-proof)", lines("unknown (model)", "(error)", "(error)", "(error)", "(error)")}})
	}
	checkTalk(t, declared+asserted(ask)+"(check-sat)(get-model)")
}

// powerText is x times a power of ten, by numbers that may stand in a script.
func powerText(sort string, zeros int) string {
	text, unit := "x", ""
	if sort == "Real" {
		unit = ".0"
	}
	for ; zeros > 0; zeros -= min(zeros, 29) {
		text = "(* " + tenTo(min(zeros, 29)) + unit + " " + text + ")"
	}
	return text
}

// A number of more than IntDigits digits has no value; one that is only longer than a value may be is told.
func TestStage16NoNumber(t *testing.T) {
	for _, sort := range []string{"Int", "Real"} {
		unit := map[string]string{"Int": "", "Real": ".0"}[sort]
		declared := "(declare-const x " + sort + ")(assert (= x 5" + unit + "))"
		checkNoValue(t, declared, powerText(sort, impl.IntDigits-1), false)
		checkNoValue(t, declared, powerText(sort, impl.IntDigits), true)
		checkNoValue(t, declared, "(- "+powerText(sort, impl.IntDigits-1)+")", false)
		checkNoValue(t, declared, "(+ "+powerText(sort, impl.IntDigits-1)+" "+powerText(sort, impl.IntDigits-1)+")", true)
		checkNoValue(t, declared, "(< "+powerText(sort, impl.IntDigits)+" 0"+unit+")", true)
		for _, digits := range []int{impl.ValueMax - 1, impl.ValueMax, impl.ValueMax + 1, impl.IntDigits} {
			text := powerText(sort, digits-1)
			five := "5" + strings.Repeat("0", digits-1) + unit
			want := "sat\n((" + text + " " + five + ") ((- " + text + ") (- " + five + ")))\n"
			if got := checkTalk(t, declared+"(check-sat)(get-value ("+text+" (- "+text+")))"); got != want {
				t.Errorf("%d digits: %s", digits, short(got))
			}
		}
	}
	// a divisor of 2490 digits; with 10 more it is as long as may be
	text := "x"
	for range 83 {
		text = "(* (/ " + tenTo(29) + ".0 " + nines(30) + ".0) " + text + ")"
	}
	for digits, isNone := range map[int]bool{1: false, 10: false, 11: true, 29: true} {
		checkNoValue(t, "(declare-const x Real)(assert (= x (/ 1.0 "+nines(digits)+".0)))", text, isNone)
	}
}
