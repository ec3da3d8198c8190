package tests

import (
	"slices"
	"strings"
	"testing"

	"loop.example/g00007/impl"
)

func atMost(bound string, coefs ...string) impl.LinRow {
	return impl.LinRow{Coefs: coefs, Bound: bound}
}

func below(bound string, coefs ...string) impl.LinRow {
	return impl.LinRow{Coefs: coefs, Strict: true, Bound: bound}
}

// rowOf reads a row such as "2x - y <= 3"; names has a letter for each column. Also = stands for two rows, and >= and > are turned.
func rowOf(t *testing.T, names, text string) []impl.LinRow {
	t.Helper()
	words := strings.Fields(text)
	if len(words) < 3 {
		t.Fatalf("%q is no row", text)
	}
	row := impl.LinRow{Coefs: slices.Repeat([]string{"0"}, len(names)), Bound: words[len(words)-1]}
	sign := ""
	for _, word := range words[:len(words)-2] {
		switch word {
		case "+", "0":
			sign = ""
			continue
		case "-":
			sign = "-"
			continue
		}
		col := strings.Index(names, word[len(word)-1:])
		if col < 0 {
			t.Fatalf("%q in %q is no column", word, text)
		}
		coef := word[:len(word)-1]
		if coef == "" || coef == "-" {
			coef += "1"
		}
		row.Coefs[col] = impl.IntMul(sign+"1", coef)
	}
	back := impl.LinRow{Bound: impl.IntSub("0", row.Bound)}
	for _, coef := range row.Coefs {
		back.Coefs = append(back.Coefs, impl.IntSub("0", coef))
	}
	relation := words[len(words)-2]
	row.Strict, back.Strict = relation == "<", relation == ">"
	switch relation {
	case "<", "<=":
		return []impl.LinRow{row}
	case ">", ">=":
		return []impl.LinRow{back}
	case "=":
		return []impl.LinRow{row, back}
	}
	t.Fatalf("%q is no relation", relation)
	return nil
}

// rowsOf reads rows with commas between them.
func rowsOf(t *testing.T, names, text string) (rows []impl.LinRow) {
	t.Helper()
	for _, part := range strings.Split(text, ",") {
		if strings.TrimSpace(part) != "" {
			rows = append(rows, rowOf(t, names, part)...)
		}
	}
	return rows
}

// checkKnown holds what was worked out by hand also against the second reading.
func checkKnown(t *testing.T, names, text string, want linAnswer) {
	t.Helper()
	rows := rowsOf(t, names, text)
	checkAnswer(t, len(names), rows, want)
	checkIneqs(t, len(names), rows)
}

// A metRow is rows that numbers meet, and those that Feasible tells.
type metRow struct {
	names string
	text  string
	vals  string
}

func checkMet(t *testing.T, rows []metRow) {
	t.Helper()
	for _, r := range rows {
		checkKnown(t, r.names, r.text, linAnswer{point: impl.Point{Ok: true, Vals: strings.Fields(r.vals)}})
	}
}

// An unmetRow is rows that no numbers meet, and what they add up with.
type unmetRow struct {
	names  string
	text   string
	farkas string
}

func checkUnmet(t *testing.T, rows []unmetRow) {
	t.Helper()
	for _, r := range rows {
		want := linAnswer{farkas: strings.Fields(r.farkas)}
		for i, factor := range want.farkas {
			if factor != "0" {
				want.core = append(want.core, i)
			}
		}
		checkKnown(t, r.names, r.text, want)
	}
}

// The examples of the chapter.
func TestStage12Examples(t *testing.T) {
	checkUnmet(t, []unmetRow{
		{"x", "x < 1, -x <= -1", "1 1"},
		{"x", "2x <= 1, -3x <= -2, x <= 5", "3 2 0"},
	})
	checkMet(t, []metRow{{"x", "-3x < -1, 2x < 1", "2/5"}})
}

// One column that is held from below, from above, from both sides, at one number, and not at all.
func TestStage12OneColumn(t *testing.T) {
	checkMet(t, []metRow{
		{"x", "", "0"},
		{"x", "x <= 5", "0"}, {"x", "x <= 0", "0"}, {"x", "x < 0", "-1"}, {"x", "x <= -3", "-3"}, {"x", "x < -3", "-4"},
		{"x", "2x <= -7", "-4"}, {"x", "2x < -7", "-4"}, {"x", "2x <= -6", "-3"}, {"x", "2x < -6", "-4"},
		{"x", "x >= -5", "0"}, {"x", "x >= 0", "0"}, {"x", "x > 0", "1"}, {"x", "x >= 3", "3"}, {"x", "x > 3", "4"},
		{"x", "2x >= 7", "4"}, {"x", "2x > 7", "4"}, {"x", "2x >= 6", "3"}, {"x", "2x > 6", "4"},
		{"x", "x >= -5, x <= 5", "0"}, {"x", "x > 0, x < 2", "1"}, {"x", "x > 0, x <= 1", "1"}, {"x", "x > 0, x < 1", "1/2"},
		{"x", "x >= 0, x < 1", "0"}, {"x", "x > -1, x < 0", "-1/2"}, {"x", "x >= -1, x < 0", "-1"}, {"x", "x > -1, x <= 0", "0"},
		{"x", "3x >= 1, 2x <= 1", "1/2"}, {"x", "3x > 1, 2x < 1", "2/5"}, {"x", "3x >= 1, 2x < 1", "1/3"}, {"x", "3x > 1, 2x <= 1", "1/2"},
		{"x", "3x <= -1, 2x >= -1", "-1/2"}, {"x", "3x < -1, 2x > -1", "-2/5"}, {"x", "3x <= -1, 2x > -1", "-1/3"},
		{"x", "5x >= 17, 7x <= 24", "17/5"}, {"x", "5x > 17, 7x < 24", "41/12"}, {"x", "5x > 17, 7x <= 24", "24/7"},
		{"x", "x = 4", "4"}, {"x", "x = 0", "0"}, {"x", "3x = -7", "-7/3"}, {"x", "6x = 4", "2/3"},
		{"x", "x < 9, x < 7, x < 8, x > 5, x > 4", "6"}, {"x", "x > 6, x < 7, x < 8, x > 5", "13/2"},
		{"x", "2x > 1, 2x < 3, 3x > 2, 3x < 4", "1"}, {"x", "2x > 2, 2x < 3, 4x > 5, 7x < 10", "4/3"},
	})
	checkUnmet(t, []unmetRow{
		{"x", "x < 3, x > 3", "1 1"}, {"x", "x <= 3, x > 3", "1 1"}, {"x", "x < 3, x >= 3", "1 1"}, {"x", "x <= 3, x >= 4", "1 1"},
		{"x", "2x <= 3, 3x >= 5", "3 2"}, {"x", "4x <= 6, 6x > 9", "3 2"}, {"x", "4x <= 6, 6x >= 10", "3 2"},
		{"x", "x = 4, x > 4", "1 0 1"}, {"x", "x = 4, x < 4", "0 1 1"}, {"x", "x = 4, x < 3", "0 1 1"},
		{"x", "x <= 5, x <= 7, x >= 6", "1 0 1"}, {"x", "x <= 5, x <= 4, x >= 6", "0 1 1"}, {"x", "x <= 5, x >= 6, x >= 7, x <= 3", "0 0 1 1"},
	})
}

// Two columns and more, each chosen with the columns ahead as they were chosen.
func TestStage12ManyColumns(t *testing.T) {
	checkMet(t, []metRow{
		{"xy", "x + y <= 4, x >= 1, y - x >= 2", "1 3"},
		{"xy", "x + y >= 1", "0 1"}, {"xy", "x + y > 1", "0 2"}, {"xy", "2x + 2y = 1", "0 1/2"}, {"xy", "2x + 2y = 1, x >= 1", "1 -1/2"},
		{"xy", "x + y >= 1, y <= 0", "1 0"}, {"xy", "x + y >= 1, 2y <= 1", "1 0"}, {"xy", "x + y >= 1, 2y <= 1, 3x < 2", "1/2 1/2"},
		{"xy", "x - y = 0, x + y = 1", "1/2 1/2"}, {"xy", "x - y = 0, x + 2y = 1", "1/3 1/3"}, {"xy", "x - y = 0, 2y > 1, 3y < 2", "3/5 3/5"},
		{"xy", "x > 0, x < 1, y > 0, 2y - x < 0", "1/2 1/5"}, {"xy", "x > 0, x < 1, y >= 0, 2y - x <= 0", "1/2 0"},
		{"xy", "x - y > 0, x - y < 1", "0 -1/2"}, {"xy", "x - y > 0, 3x - 3y < 1, y >= 2", "3 11/4"},
		{"xy", "y - 3x >= 0, 10y - 31x <= 0, x >= 1", "1 3"}, {"xy", "y - 3x > 0, 10y - 31x < 0, x > 1", "2 37/6"},
		{"xyz", "x + y + z = 1", "0 0 1"}, {"xyz", "x + y + z = 1, z = 0", "0 1 0"}, {"xyz", "x + y + z = 1, z = 0, y = 0", "1 0 0"},
		{"xyz", "x - y > 0, y - z > 0, z > 0", "1 1/2 1/3"}, {"xyz", "x - y < 0, y - z < 0, z < 0", "-1 -1/2 -1/3"},
		{"xyz", "x - y < 0, y - z < 0, z < 1", "0 1/2 2/3"}, {"xyz", "2x + 3y = 7, 5y - z = 2, x - z <= 0", "0 7/3 29/3"},
		{"xyz", "2x + 3y = 7, 5y - z = 2, x - z > 0", "3 1/3 -1/3"},
		{"wxyz", "w + x >= 1, x + y >= 1, y + z >= 1, z + w >= 1, w <= 0", "0 1 0 1"},
		{"wxyz", "w + x = 5, x - y = 2, y + 2z = 3, w - z > 0", "1 4 2 1/2"},
		{"wxyz", "3w - x >= 0, 3x - y >= 0, 3y - z >= 0, z >= 1", "1 1 1 1"},
	})
	checkUnmet(t, []unmetRow{
		{"xy", "x + y <= 1, x >= 1, y > 0", "1 1 1"}, {"xy", "x + y <= 1, x >= 1, y >= 1", "1 1 1"}, {"xy", "x + y < 2, x >= 1, y >= 1", "1 1 1"},
		{"xy", "2x + 3y <= 5, x >= 2, y >= 1", "1 2 3"}, {"xy", "x - y <= 0, y - 2x <= 0, x < 0", "1 1 1"},
		{"xy", "x - y < 0, y - x < 0", "1 1"}, {"xy", "x - y < 0, y - x <= 0", "1 1"}, {"xy", "2x - 4y <= 1, 6y - 3x <= -2", "3 2"},
		{"xyz", "x - y < 0, y - z < 0, z - x < 0", "1 1 1"}, {"xyz", "x - y <= 0, y - z <= 0, z - x < 0", "1 1 1"},
		{"xyz", "x - 2y <= 0, y - 2z <= 0, z - 2x <= -1, x <= 0, y <= 5", "1 2 4 7 0"},
		{"xyz", "7x + 5y + 3z <= 2, 2x - y >= 0, 2y - z >= 0, z >= 1", "4 14 17 29"},
	})
}
