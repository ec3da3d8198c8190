package tests

import (
	"math/big"
	"math/rand"
	"regexp"
	"slices"
	"strconv"
	"strings"
	"testing"

	"loop.example/g00007/impl"
)

var (
	intForm    = regexp.MustCompile(`^(0|-?[1-9][0-9]{0,29})$`)
	ratForm    = regexp.MustCompile(`^(0|-?[1-9][0-9]{0,29})(/([1-9][0-9]{0,29}))?$`)
	digitsForm = regexp.MustCompile(`^[01]+$`)
)

// wordWidth is the width of a sort of bits that is a right one, 0 for all others.
func wordWidth(sort string) int {
	for w := 1; w <= 64; w++ {
		if sort == "(_ BitVec "+strconv.Itoa(w)+")" {
			return w
		}
	}
	return 0
}

// isPlainNumber says by patterns whether a text is an OpNum's.
func isPlainNumber(sort, text string) bool {
	if sort == "Int" {
		return intForm.MatchString(text)
	}
	m := ratForm.FindStringSubmatch(text)
	if sort != "Real" || m == nil {
		return false
	}
	if m[2] == "" {
		return true
	}
	p, _ := new(big.Int).SetString(m[1], 10)
	q, _ := new(big.Int).SetString(m[3], 10)
	return m[3] != "1" && m[1] != "0" && new(big.Int).GCD(nil, nil, p.Abs(p), q).Cmp(big.NewInt(1)) == 0
}

// isRightTerm is the document's table, row by row, for a term that is to stand behind those of a good bank.
func isRightTerm(b impl.Bank, x impl.Term) bool {
	var kids []impl.Term
	var sorts []string
	for _, kid := range x.Kids {
		if kid < 0 || kid >= len(b.Terms) {
			return false
		}
		kids = append(kids, b.Terms[kid])
		sorts = append(sorts, b.Terms[kid].Sort)
	}
	n := len(kids)
	all := func(sort string) bool {
		return x.Sort == sort && !slices.ContainsFunc(sorts, func(k string) bool { return k != sort })
	}
	alike := func() bool { return !slices.ContainsFunc(sorts, func(k string) bool { return k != sorts[0] }) }
	isNumber := func(sort string) bool { return sort == "Int" || sort == "Real" }
	noText, noA, noB := x.Text == "", x.A == 0, x.B == 0
	noMore := noText && noA && noB
	many := n >= 2 && n <= 50
	switch op := x.Op; {
	case op == 1 || op == 2:
		return n == 0 && x.Sort == "Bool" && noMore
	case op == 3:
		return n == 1 && all("Bool") && noMore
	case op == 4 || op == 5:
		return many && all("Bool") && noMore
	case op == 6 || op == 7:
		return n == 2 && all("Bool") && noMore
	case op == 8:
		return n == 3 && sorts[0] == "Bool" && sorts[1] == x.Sort && sorts[2] == x.Sort && noMore
	case op == 9:
		return n == 2 && alike() && x.Sort == "Bool" && noMore
	case op == 10:
		return many && alike() && x.Sort == "Bool" && noMore
	case op == 11:
		i := slices.IndexFunc(b.Funs, func(f impl.Fun) bool { return f.Name == x.Text })
		return i >= 0 && slices.Equal(sorts, b.Funs[i].Args) && x.Sort == b.Funs[i].Sort && noA && noB
	case op == 12:
		return n == 0 && isPlainNumber(x.Sort, x.Text) && noA && noB
	case op == 13:
		return many && (all("Int") || all("Real")) && noMore
	case op == 14:
		return n == 2 && (all("Int") || all("Real")) && noMore
	case op == 15:
		return n == 1 && (all("Int") || all("Real")) && noMore
	case op == 16:
		return n == 2 && (all("Int") || all("Real")) && kids[0].Op == 12 && noMore
	case op >= 17 && op <= 20:
		return n == 2 && alike() && isNumber(sorts[0]) && x.Sort == "Bool" && noMore
	case op == 21 || op == 22:
		return n == 2 && all("Int") && kids[1].Op == 12 && kids[1].Text != "0" && noMore
	case op == 23:
		return n == 1 && sorts[0] == "Int" && x.Sort == "Real" && noMore
	}
	return isRightWord(x, sorts)
}

// isRightWord is the rest of the table: words of bits, and arrays.
func isRightWord(x impl.Term, sorts []string) bool {
	n := len(sorts)
	width := wordWidth(x.Sort)
	var widths []int
	for _, sort := range sorts {
		widths = append(widths, wordWidth(sort))
	}
	noText, noA, noB := x.Text == "", x.A == 0, x.B == 0
	noMore := noText && noA && noB
	switch op := x.Op; {
	case op == 24:
		return n == 0 && width > 0 && len(x.Text) == width && digitsForm.MatchString(x.Text) && noA && noB
	case op == 25 || op == 26:
		return n == 1 && width > 0 && sorts[0] == x.Sort && noMore
	case op >= 27 && op <= 37:
		return n == 2 && width > 0 && sorts[0] == x.Sort && sorts[1] == x.Sort && noMore
	case op >= 38 && op <= 41:
		return n == 2 && widths[0] > 0 && sorts[0] == sorts[1] && x.Sort == "Bool" && noMore
	case op == 42:
		return n == 2 && widths[0] > 0 && widths[1] > 0 && width == widths[0]+widths[1] && noMore
	case op == 43:
		return n == 1 && widths[0] > x.A && x.A >= x.B && x.B >= 0 && width == x.A-x.B+1 && noText
	case op == 44 || op == 45:
		return n == 1 && widths[0] > 0 && x.A >= 1 && x.A <= 64 && width == widths[0]+x.A && noText && noB
	case op == 46:
		return n == 2 && sorts[0] == "(Array "+sorts[1]+" "+x.Sort+")" && noMore
	case op == 47:
		return n == 3 && sorts[0] == x.Sort && sorts[0] == "(Array "+sorts[1]+" "+sorts[2]+")" && noMore
	}
	return false
}

// checkTerm holds what AddTerm says of a term against the table.
func checkTerm(t *testing.T, b impl.Bank, x impl.Term) {
	t.Helper()
	r := impl.AddTerm(b, x)
	want := impl.BankTerm
	if isRightTerm(b, x) {
		want = impl.BankOk
	}
	if r.Err != want {
		t.Fatalf("AddTerm(%+v): Err %d, want %d", x, r.Err, want)
	}
	if want == impl.BankOk && (r.Id > len(b.Terms) || !sameBank(impl.Bank{Terms: r.Bank.Terms[r.Id : r.Id+1]}, impl.Bank{Terms: []impl.Term{x}})) {
		t.Fatalf("AddTerm(%+v): Id %d", x, r.Id)
	}
}

// mixedBank has a term or two of each kind of sort.
func mixedBank() impl.Bank {
	b := impl.NewBank()
	b.Sorts = []string{"U", "a b"}
	arr, words := "(Array U |a b|)", "(Array (_ BitVec 2) (_ BitVec 1))"
	b.Funs = []impl.Fun{{Name: "p", Sort: "Bool"}, {Name: "i", Sort: "Int"}, {Name: "r", Sort: "Real"}, {Name: "u", Sort: "U"}, {Name: "a b c", Sort: "|a b|"},
		{Name: "m", Sort: arr}, {Name: "w", Sort: words}, {Name: "x", Sort: "(_ BitVec 2)"}, {Name: "y", Sort: "(_ BitVec 1)"},
		{Name: "f", Args: []string{"U"}, Sort: "Bool"}, {Name: "g", Args: []string{"Int", "U"}, Sort: "(_ BitVec 2)"}, {Name: "h", Args: []string{"Real", "|a b|", "(_ BitVec 1)"}, Sort: "U"}}
	b.Terms = append(b.Terms, constant("i", "Int"), numeral("Int", "3"), numeral("Int", "0"), constant("r", "Real"), numeral("Real", "0"), constant("u", "U"), constant("a b c", "|a b|"),
		constant("m", arr), constant("w", words), constant("x", "(_ BitVec 2)"), constant("y", "(_ BitVec 1)"))
	return b
}

// Every operation, and some that are none, over all ways to take up to three kids and a sort.
func TestStage4EveryShape(t *testing.T) {
	b := mixedBank()
	if !impl.GoodBank(b) {
		t.Fatal("the bank is good")
	}
	rows := [][]int{nil}
	for i := range b.Terms {
		rows = append(rows, []int{i})
		for j := range b.Terms {
			rows = append(rows, []int{i, j})
		}
	}
	some := []int{0, 2, 3, 5, 7, 8, 9, 10, 11, 12}
	for _, i := range some {
		for _, j := range some {
			for _, k := range some {
				rows = append(rows, []int{i, j, k})
			}
		}
	}
	sorts := []string{"Bool", "Int", "Real", "U", "|a b|", "(_ BitVec 1)", "(_ BitVec 2)", "(_ BitVec 3)", "(Array U |a b|)", "(Array (_ BitVec 2) (_ BitVec 1))", "", "V"}
	right := map[int]int{}
	for op := -1; op <= 49; op++ {
		for _, kids := range rows {
			for _, sort := range sorts {
				x := impl.Term{Op: op, Sort: sort, Kids: kids}
				if len(kids) > 2 && !isRightTerm(b, x) && (op+len(sort)+kids[0]+kids[1]*3+kids[2]*7)%11 != 0 {
					continue // most of the wrong ones are wrong in the same way
				}
				checkTerm(t, b, x)
				if isRightTerm(b, x) {
					right[op]++
				}
			}
		}
	}
	for op := 1; op <= 47; op++ {
		isTold := op == impl.OpApp || op == impl.OpNum || op == impl.OpBits || op == impl.OpZext || op == impl.OpSext
		if (right[op] == 0) != isTold {
			t.Errorf("operation %d: %d right terms", op, right[op])
		}
	}
}

// ordinaryTerms has a right term for each operation, over the terms of mixedBank.
func ordinaryTerms() []impl.Term {
	const x, y = 11, 12
	one, two, three := "(_ BitVec 1)", "(_ BitVec 2)", "(_ BitVec 3)"
	terms := []impl.Term{term(1, "Bool"), term(2, "Bool"), term(3, "Bool", 0), term(4, "Bool", 0, 1), term(5, "Bool", 1, 0, 1), term(6, "Bool", 0, 0), term(7, "Bool", 1, 1),
		term(8, "U", 0, 7, 7), term(8, "(Array U |a b|)", 0, 9, 9), term(8, "Bool", 0, 1, 0), term(9, "Bool", 9, 9), term(9, "Bool", 0, 1), term(10, "Bool", 2, 3, 2), term(10, "Bool", 10, 10),
		constant("p", "Bool"), {Op: 11, Sort: "Bool", Text: "f", Kids: []int{7}}, {Op: 11, Sort: two, Text: "g", Kids: []int{2, 7}}, {Op: 11, Sort: "U", Text: "h", Kids: []int{5, 8, y}}, constant("m", "(Array U |a b|)"),
		numeral("Int", "-12"), numeral("Real", "-12"), numeral("Real", "5/3"), numeral("Real", "-5/3"),
		term(13, "Int", 2, 3), term(13, "Real", 5, 6, 5), term(14, "Int", 2, 2), term(14, "Real", 5, 5), term(15, "Int", 4), term(15, "Real", 5), term(16, "Int", 4, 2), term(16, "Real", 6, 5),
		term(17, "Bool", 2, 3), term(18, "Bool", 5, 5), term(19, "Bool", 2, 2), term(20, "Bool", 6, 5), term(21, "Int", 2, 3), term(22, "Int", 4, 3), term(23, "Real", 2),
		{Op: 24, Sort: one, Text: "1"}, {Op: 24, Sort: three, Text: "010"}, term(25, two, x), term(26, one, y),
		term(42, three, x, y), term(42, two, y, y), {Op: 43, Sort: one, Kids: []int{x}, A: 1, B: 1}, {Op: 43, Sort: one, Kids: []int{x}}, {Op: 43, Sort: two, Kids: []int{x}, A: 1},
		{Op: 44, Sort: three, Kids: []int{x}, A: 1}, {Op: 45, Sort: "(_ BitVec 64)", Kids: []int{x}, A: 62}, term(46, "|a b|", 9, 7), term(46, one, 10, x), term(47, "(Array U |a b|)", 9, 7, 8), term(47, "(Array (_ BitVec 2) (_ BitVec 1))", 10, x, y)}
	for op := 27; op <= 37; op++ {
		terms = append(terms, term(op, two, x, x))
	}
	for op := 38; op <= 41; op++ {
		terms = append(terms, term(op, "Bool", y, y))
	}
	return terms
}

// Each right term, and each that is wrong by one in some field.
func TestStage4WrongByOne(t *testing.T) {
	b := mixedBank()
	for _, x := range ordinaryTerms() {
		if !isRightTerm(b, x) {
			t.Fatalf("%+v is a right term", x)
		}
		checkTerm(t, b, x)
		for _, op := range []int{-x.Op, 0, x.Op - 1, x.Op + 1, x.Op + 256, 48, 1 << 62, -1 << 63} {
			y := x
			y.Op = op
			checkTerm(t, b, y)
		}
		for _, sort := range []string{"", "Bool", "Int", "Real", "U", "|a b|", "a b", "(_ BitVec 1)", "(_ BitVec 2)", "(_ BitVec 3)", "(_ BitVec 4)", "(_ BitVec 65)", "(Array U U)", "(Array U |a b|)", x.Sort + " ", "|" + x.Sort + "|"} {
			y := x
			y.Sort = sort
			checkTerm(t, b, y)
		}
		for _, text := range []string{"", "p", "f", "|f|", "g", "h", "a b c", "0", "1", "-1", "00", "01", "3/2", "2/4", x.Text + "0", x.Text + "1", x.Text + "2", x.Text + " ", "0" + x.Text, x.Text + "\x00"} {
			y := x
			y.Text = text
			checkTerm(t, b, y)
		}
		for _, n := range []int{-1, 0, 1, 2, 61, 62, 63, 64, 1 << 62, 1<<63 - 1, -1 << 63} {
			for _, m := range []int{x.B, -1, 0, 1, 2, n, n - 1, n + 1, 1<<63 - 1, -1 << 63} {
				y := x
				y.A, y.B = n, m
				checkTerm(t, b, y)
				y.A, y.B = m, n
				checkTerm(t, b, y)
			}
		}
		checkKids(t, b, x)
	}
}

// checkKids tries a term with a kid more, a kid less and each kid another.
func checkKids(t *testing.T, b impl.Bank, x impl.Term) {
	t.Helper()
	for place := 0; place <= len(x.Kids); place++ {
		for kid := -1; kid <= len(b.Terms)+1; kid++ {
			y := x
			y.Kids = slices.Insert(slices.Clone(x.Kids), place, kid)
			checkTerm(t, b, y)
			if place < len(x.Kids) {
				y.Kids = slices.Clone(x.Kids)
				y.Kids[place] = kid
				checkTerm(t, b, y)
			}
		}
		if place < len(x.Kids) {
			y := x
			y.Kids = slices.Delete(slices.Clone(x.Kids), place, place+1)
			checkTerm(t, b, y)
		}
	}
	for _, kid := range []int{1 << 62, -1 << 63, 1 << 16, 1<<16 + 1, 1 << 32} {
		y := x
		y.Kids = append(slices.Clone(x.Kids[:max(0, len(x.Kids)-1)]), kid)
		checkTerm(t, b, y)
	}
}

func TestStage4ManyKids(t *testing.T) {
	b := mixedBank()
	for op := 1; op <= 47; op++ {
		for _, n := range []int{impl.MaxKids - 1, impl.MaxKids, impl.MaxKids + 1, 10 * impl.MaxKids} {
			for kid, sort := range map[int]string{0: "Bool", 2: "Int", 5: "Real", 7: "U", 11: "(_ BitVec 2)"} {
				checkTerm(t, b, term(op, sort, slices.Repeat([]int{kid}, n)...))
				checkTerm(t, b, term(op, "Bool", slices.Repeat([]int{kid}, n)...))
			}
			checkTerm(t, b, term(op, "Int", append(slices.Repeat([]int{2}, n-1), 5)...))
			checkTerm(t, b, term(op, "Bool", append(slices.Repeat([]int{0}, n-1), 5)...))
		}
	}
	addTerm(t, b, term(impl.OpAnd, "Bool", slices.Repeat([]int{0}, impl.MaxKids)...), len(b.Terms), impl.BankOk)
	addTerm(t, b, term(impl.OpAnd, "Bool", slices.Repeat([]int{0}, impl.MaxKids+1)...), 0, impl.BankTerm)
	addTerm(t, b, term(impl.OpDistinct, "Bool", slices.Repeat([]int{7}, impl.MaxKids)...), len(b.Terms), impl.BankOk)
	addTerm(t, b, term(impl.OpDistinct, "Bool", slices.Repeat([]int{7}, impl.MaxKids+1)...), 0, impl.BankTerm)
	addTerm(t, b, term(impl.OpAdd, "Real", slices.Repeat([]int{5}, impl.MaxKids)...), len(b.Terms), impl.BankOk)
	addTerm(t, b, term(impl.OpAdd, "Real", slices.Repeat([]int{5}, impl.MaxKids+1)...), 0, impl.BankTerm)
}

// A call has as many kids as its Fun has Args, of their sorts.
func TestStage4Calls(t *testing.T) {
	b := mixedBank()
	for n := range impl.MaxArgs + 1 {
		b.Funs = append(b.Funs, impl.Fun{Name: "f" + strconv.Itoa(n), Args: slices.Repeat([]string{"U"}, n), Sort: "U"})
	}
	b.Funs = append(b.Funs, impl.Fun{Name: "mixed", Args: []string{"Int", "Real", "U", "(_ BitVec 2)", "|a b|"}, Sort: "Bool"})
	for n := range impl.MaxArgs + 1 {
		for kids := range impl.MaxArgs + 3 {
			checkTerm(t, b, impl.Term{Op: impl.OpApp, Sort: "U", Text: "f" + strconv.Itoa(n), Kids: slices.Repeat([]int{7}, kids)})
		}
	}
	right := []int{2, 5, 7, 11, 8}
	checkKids(t, b, impl.Term{Op: impl.OpApp, Sort: "Bool", Text: "mixed", Kids: right})
	addTerm(t, b, impl.Term{Op: impl.OpApp, Sort: "Bool", Text: "mixed", Kids: right}, len(b.Terms), impl.BankOk)
	addTerm(t, b, impl.Term{Op: impl.OpApp, Sort: "U", Text: "U"}, 0, impl.BankTerm)
}

func TestStage4Numbers(t *testing.T) {
	b := impl.NewBank()
	nine, ten := strings.Repeat("9", impl.NumDigits), "1"+strings.Repeat("0", impl.NumDigits)
	right := map[string][]string{
		"Int":  {"0", "1", "-1", nine, "-" + nine},
		"Real": {"0", "1", "-1", nine, "-" + nine, "1/2", "-1/2", nine + "/2", "-" + nine + "/2", "1/" + nine, "-1/" + nine, nine + "/" + nine[1:] + "8", "-" + nine + "/" + nine[1:] + "8"},
	}
	wrong := append(noInts(), ten, "-"+ten, "1/"+ten, ten+"/3", "1/1", "0/2", "2/4", "1/-2", "-1/-2", "--1", "1/0", "1/", "/1", "/", "1/2/3", "+1", "1.0", "01", "-0", " 1", "1 ", strings.Repeat("9", 100000))
	for sort, texts := range right {
		for _, text := range texts {
			addTerm(t, b, numeral(sort, text), 2, impl.BankOk)
		}
		for _, text := range wrong {
			if !isPlainNumber(sort, text) {
				addTerm(t, b, numeral(sort, text), 0, impl.BankTerm)
			}
		}
	}
	addTerm(t, b, numeral("Int", "1/2"), 0, impl.BankTerm)
	for _, sort := range []string{"", "Bool", "int", "(_ BitVec 1)", "|Int|"} {
		addTerm(t, b, numeral(sort, "1"), 0, impl.BankTerm)
	}
	r := rand.New(rand.NewSource(41))
	for range 2000 {
		text := drawInt(r, 33)
		if r.Intn(2) == 0 {
			text += "/" + drawInt(r, 33)
		}
		checkTerm(t, b, numeral("Int", text))
		checkTerm(t, b, numeral("Real", text))
	}
}

// Words of every width, as constants, joined, cut and widened, up to MaxWidth and one more.
func TestStage4Widths(t *testing.T) {
	var b impl.Bank
	sort := func(w int) string { return "(_ BitVec " + strconv.Itoa(w) + ")" }
	for w := 1; w <= impl.MaxWidth; w++ {
		b.Terms = append(b.Terms, impl.Term{Op: impl.OpBits, Sort: sort(w), Text: strings.Repeat("10", 32)[:w]})
	}
	for w := 0; w <= impl.MaxWidth+1; w++ {
		for n := max(0, w-1); n <= w+1; n++ {
			checkTerm(t, b, impl.Term{Op: impl.OpBits, Sort: sort(w), Text: strings.Repeat("1", n)})
			checkTerm(t, b, impl.Term{Op: impl.OpBits, Sort: sort(w), Text: strings.Repeat("2", n)})
		}
		for _, v := range []int{1, 2, 31, 32, 33, 63, 64} {
			for _, s := range []int{w - v, w - v - 1, w - v + 1} {
				if s >= 1 && s <= impl.MaxWidth {
					checkTerm(t, b, term(impl.OpConcat, sort(w), v-1, s-1))
				}
				checkTerm(t, b, impl.Term{Op: impl.OpZext, Sort: sort(w), A: s, Kids: []int{v - 1}})
				checkTerm(t, b, impl.Term{Op: impl.OpSext, Sort: sort(w), A: s, Kids: []int{v - 1}})
			}
			for low := -1; low <= v; low++ {
				for high := low + w - 2; high <= low+w; high++ {
					checkTerm(t, b, impl.Term{Op: impl.OpExtract, Sort: sort(w), A: high, B: low, Kids: []int{v - 1}})
				}
			}
		}
	}
	mixed := mixedBank()
	for kid := range mixed.Terms {
		for w := 1; w <= 4; w++ {
			for _, op := range []int{impl.OpExtract, impl.OpZext, impl.OpSext, impl.OpConcat} {
				for a := -1; a <= 4; a++ {
					checkTerm(t, mixed, impl.Term{Op: op, Sort: sort(w), A: a, Kids: []int{kid}})
				}
				checkTerm(t, mixed, impl.Term{Op: op, Sort: sort(w), Kids: []int{kid, 11}})
				checkTerm(t, mixed, impl.Term{Op: op, Sort: sort(w), Kids: []int{11, kid}})
			}
		}
	}
	addTerm(t, b, term(impl.OpConcat, sort(64), 31, 31), impl.MaxWidth, impl.BankOk)
	addTerm(t, b, term(impl.OpConcat, sort(65), 31, 32), 0, impl.BankTerm)
	addTerm(t, b, impl.Term{Op: impl.OpSext, Sort: sort(64), A: 1, Kids: []int{62}}, impl.MaxWidth, impl.BankOk)
	addTerm(t, b, impl.Term{Op: impl.OpSext, Sort: sort(65), A: 1, Kids: []int{63}}, 0, impl.BankTerm)
}

// Terms that differ in one field alone are two.
func TestStage4NearTerms(t *testing.T) {
	b := mixedBank()
	ids := map[int]bool{}
	terms := append(ordinaryTerms(), impl.Term{Op: 43, Sort: "(_ BitVec 1)", Kids: []int{11}, A: 1, B: 1}, impl.Term{Op: 43, Sort: "(_ BitVec 1)", Kids: []int{11}},
		term(impl.OpAnd, "Bool", 0, 1), term(impl.OpAnd, "Bool", 1, 0), term(impl.OpAnd, "Bool", 0, 1, 0), term(impl.OpOr, "Bool", 0, 1),
		numeral("Int", "1"), numeral("Real", "1"), numeral("Int", "-1"), impl.Term{Op: 24, Sort: "(_ BitVec 1)", Text: "0"})
	var told []int
	for _, x := range terms {
		at := slices.IndexFunc(b.Terms, func(y impl.Term) bool {
			return x.Op == y.Op && x.Sort == y.Sort && x.Text == y.Text && x.A == y.A && x.B == y.B && slices.Equal(x.Kids, y.Kids)
		})
		if at < 0 {
			at = len(b.Terms)
		}
		b = addTerm(t, b, x, at, impl.BankOk)
		ids[at] = true
		told = append(told, at)
	}
	size := len(b.Terms)
	for i, x := range terms {
		b = addTerm(t, b, x, told[i], impl.BankOk)
	}
	if len(b.Terms) != size || len(ids) < len(ordinaryTerms())+4 {
		t.Errorf("%d terms, %d indexes", len(b.Terms)-size, len(ids))
	}
}

// drawBank grows a bank by random terms.
func drawBank(r *rand.Rand, steps int) impl.Bank {
	b := mixedBank()
	for range steps {
		b = impl.AddTerm(b, drawRight(r, b)).Bank
	}
	return b
}

func drawRight(r *rand.Rand, b impl.Bank) impl.Term {
	for {
		if x := drawTerm(r, b); isRightTerm(b, x) {
			return x
		}
	}
}

// drawTerm makes a term that is right now and then.
func drawTerm(r *rand.Rand, b impl.Bank) impl.Term {
	x := impl.Term{Op: 1 + r.Intn(47)}
	for range r.Intn(4) {
		x.Kids = append(x.Kids, r.Intn(len(b.Terms)))
	}
	if r.Intn(4) > 0 && len(x.Kids) > 0 { // kids of one sort, as most operations ask
		for i := range x.Kids {
			for b.Terms[x.Kids[i]].Sort != b.Terms[x.Kids[0]].Sort {
				x.Kids[i] = r.Intn(len(b.Terms))
			}
		}
		x.Sort = b.Terms[x.Kids[0]].Sort
	}
	switch r.Intn(4) {
	case 0:
		x.Sort = "Bool"
	case 1:
		x.Sort = b.Terms[r.Intn(len(b.Terms))].Sort
	}
	switch x.Op {
	case impl.OpApp:
		f := b.Funs[r.Intn(len(b.Funs))]
		x.Text, x.Sort = f.Name, f.Sort
	case impl.OpNum:
		x.Text, x.Sort, x.Kids = strconv.Itoa(r.Intn(20)), "Int", nil
	case impl.OpExtract:
		x.A, x.B = r.Intn(3), r.Intn(2)
	case impl.OpZext, impl.OpSext:
		x.A = r.Intn(3)
	}
	return x
}

// Drawn steps, each held against the table, with the promise's laws: a term that is added twice is there once.
func TestStage4DrawnSteps(t *testing.T) {
	r := rand.New(rand.NewSource(42))
	for range 20 {
		b := mixedBank()
		for range 100 {
			x := drawTerm(r, b)
			if !isRightTerm(b, x) {
				addTerm(t, b, x, 0, impl.BankTerm)
				x = drawRight(r, b)
			}
			first := impl.AddTerm(b, x)
			b = addTerm(t, b, x, first.Id, impl.BankOk)
			b = addTerm(t, b, x, first.Id, impl.BankOk)
		}
		checkNoTwins(t, b)
	}
}

func checkNoTwins(t *testing.T, b impl.Bank) {
	t.Helper()
	for i := range b.Terms {
		for j := range i {
			if sameBank(impl.Bank{Terms: b.Terms[i : i+1]}, impl.Bank{Terms: b.Terms[j : j+1]}) {
				t.Fatalf("terms %d and %d are the same", j, i)
			}
		}
	}
}
