package tests

import (
	"math/big"
	"math/rand"
	"regexp"
	"slices"
	"strconv"
	"strings"
	"testing"

	"loop.example/g00007/impl"
)

// The signatures that the document gives: a change of one is no longer built.
var (
	_ func([]string, string, string) bool                   = impl.IsValue
	_ func([]string, string) string                         = impl.FirstValue
	_ func([]string, string, string, string) int            = impl.ValueCmp
	_ func([]string, string, string, string) string         = impl.ArrayGet
	_ func([]string, string, string, string, string) string = impl.ArrayPut
	_ func(int, int, uint64, uint64) uint64                 = impl.BitsOp
)

// valueOwn are the own sorts of the tests of this stage.
func valueOwn() []string {
	return []string{"U", "a b"}
}

func bitsOf(w int) string {
	return "(_ BitVec " + strconv.Itoa(w) + ")"
}

func arrayOf(index, elem string) string {
	return "(Array " + index + " " + elem + ")"
}

// wordText is the value of n of w bits.
func wordText(w int, n uint64) string {
	digits := strconv.FormatUint(n, 2)
	return "#b" + strings.Repeat("0", w-len(digits)) + digits
}

// partSorts are sorts that an array may have for its indexes and elements.
func partSorts() []string {
	out := []string{"Int", "Real", "U", "|a b|"}
	for _, w := range []int{1, 2, 3, 5, 6, 7, 8, 33, 63, 64} {
		out = append(out, bitsOf(w))
	}
	return out
}

// ascending are values of a sort that is no array's, the least first.
func ascending(sort string) []string {
	switch sort {
	case "Bool":
		return []string{"false", "true"}
	case "Int":
		return []string{minus(tenTo(21)), "-1000000000", "-999999999", "-100", "-10", "-9", "-2", "-1", "0", "1", "2", "9", "10", "19",
			"99", "100", "1000000000", "18446744073709551616", nines(40)}
	case "Real":
		return []string{minus(tenTo(30)), "-5", "-7/2", "-10/3", "-3", "-1", "-1/3", "-1/4", "-1/1000000000", "0", "1/1000000000", "1/10",
			"1/9", "1/3", "1/2", "2/3", "1", "10/9", "3/2", "2", "10", "21/2", "100", nines(30) + "/2"}
	case "U", "|a b|":
		return []string{"@0", "@1", "@2", "@3", "@9", "@10", "@19", "@99", "@100", "@99999", "@100000", "@999999"}
	}
	w := wordWidth(sort)
	var words []uint64
	for _, n := range []uint64{0, 1, 2, 3, 1<<w/2 - 1, 1 << (w - 1), 1<<(w-1) + 1, 1<<w - 2, 1<<w - 1} {
		words = append(words, n&(1<<w-1))
	}
	slices.Sort(words)
	var out []string
	for _, n := range slices.Compact(words) {
		out = append(out, wordText(w, n))
	}
	return out
}

var (
	wholeForm    = regexp.MustCompile(`^(0|-?[1-9][0-9]*)$`)
	quotientForm = regexp.MustCompile(`^-?[1-9][0-9]*/[1-9][0-9]*$`)
	elementForm  = regexp.MustCompile(`^@(0|[1-9][0-9]{0,5})$`)
	wordForm     = regexp.MustCompile(`^#b[01]+$`)
	arrayForm    = regexp.MustCompile(`^\{[^;=]*(;[^;=]*=[^;=]*)*\}$`)
)

// plainNumberOf is the number that a value of a sort of numbers, bits or elements is by its order.
func plainNumberOf(v string) *big.Rat {
	if digits, is := strings.CutPrefix(v, "#b"); is {
		n, _ := new(big.Int).SetString(digits, 2)
		return new(big.Rat).SetInt(n)
	}
	n, _ := new(big.Rat).SetString(strings.TrimPrefix(v, "@"))
	return n
}

// A plainArray is an array's text taken apart.
type plainArray struct {
	rest string
	ats  []string
	is   map[string]string
}

func cutArray(text string) plainArray {
	parts := strings.Split(text[1:len(text)-1], ";")
	a := plainArray{rest: parts[0], is: map[string]string{}}
	for _, part := range parts[1:] {
		at, is, _ := strings.Cut(part, "=")
		a.ats = append(a.ats, at)
		a.is[at] = is
	}
	return a
}

// isPlainValue is chapter 6 a second time, by patterns and the library's numbers.
func isPlainValue(own []string, sort, v string) bool {
	info := impl.ReadSort(own, sort)
	if len(v) > 2000 {
		return false
	}
	switch info.Kind {
	case impl.SortBool:
		return v == "true" || v == "false"
	case impl.SortInt:
		return wholeForm.MatchString(v)
	case impl.SortReal:
		return wholeForm.MatchString(v) || quotientForm.MatchString(v) && plainNumberOf(v).String() == v && !strings.HasSuffix(v, "/1")
	case impl.SortBits:
		return wordForm.MatchString(v) && len(v) == info.Width+2
	case impl.SortOwn:
		return elementForm.MatchString(v)
	case impl.SortArray:
		return arrayForm.MatchString(v) && isPlainArray(own, info, cutArray(v))
	}
	return false
}

func isPlainArray(own []string, info impl.SortInfo, a plainArray) bool {
	if !isPlainValue(own, info.Elem, a.rest) || len(a.ats) > 60 {
		return false
	}
	for i, at := range a.ats {
		if !isPlainValue(own, info.Index, at) || !isPlainValue(own, info.Elem, a.is[at]) || a.is[at] == a.rest {
			return false
		}
		if strings.Trim(at, "0") == "#b" {
			return false
		}
		if i > 0 && plainNumberOf(a.ats[i-1]).Cmp(plainNumberOf(at)) >= 0 {
			return false
		}
	}
	return true
}

// checkIsValue holds IsValue against the second reading.
func checkIsValue(t *testing.T, own []string, sort, v string) {
	t.Helper()
	kept := slices.Clone(own)
	if got, want := impl.IsValue(own, sort, v), isPlainValue(own, sort, v); got != want {
		t.Errorf("IsValue(%q, %s) = %v, want %v", sort, short(v), got, want)
	}
	if !slices.Equal(own, kept) {
		t.Errorf("the sorts were changed: %q", own)
	}
}

func checkValues(t *testing.T, want bool, sort string, values ...string) {
	t.Helper()
	for _, v := range values {
		if got := impl.IsValue(valueOwn(), sort, v); got != want {
			t.Errorf("IsValue(%q, %s) = %v", sort, short(v), got)
		}
		checkIsValue(t, valueOwn(), sort, v)
	}
}

func TestStage6Constants(t *testing.T) {
	if impl.ValueMax != 2000 || impl.EntryMax != 60 {
		t.Errorf("ValueMax %d, EntryMax %d", impl.ValueMax, impl.EntryMax)
	}
}

func TestStage6OrdinaryValues(t *testing.T) {
	for _, sort := range append(partSorts(), "Bool") {
		checkValues(t, true, sort, ascending(sort)...)
	}
	checkValues(t, true, "(Array Int Int)", "{0}", "{-7}", "{0;1=5;3=7}", "{5;-10=0;-9=1;9=1;10=-5}")
	checkValues(t, true, "(Array Real Real)", "{1/2}", "{0;-1/2=1/3;1/3=1/2;1/2=1/3;1=-1}")
	checkValues(t, true, "(Array U |a b|)", "{@0}", "{@3;@2=@0;@10=@999999;@999999=@2}", "{@1;@0=@0}")
	checkValues(t, true, "(Array |a b| (_ BitVec 2))", "{#b00;@0=#b11}")
	checkValues(t, true, "(Array (_ BitVec 1) Int)", "{4}", "{4;#b1=7}", "{4;#b1=0}", "{0;#b1=4}")
	checkValues(t, true, "(Array (_ BitVec 2) Int)", "{4;#b01=7;#b10=7;#b11=7}", "{4;#b10=7}")
	checkValues(t, true, "(Array Int (_ BitVec 64))", "{"+wordText(64, 0)+";0="+wordText(64, 1<<63)+"}")
}

func TestStage6NoValues(t *testing.T) {
	checkValues(t, false, "Bool", "", "True", "FALSE", "1", "0", "true ", " false", "not", "@0", "#b1", "truefalse", "true\x00", "{true}")
	checkValues(t, false, "Int", noInts()...)
	checkValues(t, false, "Int", "@1", "#b1", "true", "{0}", "1/2", "1;", "1=", "1.0")
	checkValues(t, false, "Real", noRats()...)
	checkValues(t, false, "Real", "@1/2", "#b1", "{0}", "1/2;", "0.5")
	checkValues(t, false, "(_ BitVec 3)", "", "#b", "#b01", "#b0101", "#b012", "#b01a", "b010", "#010", "010", "#B010", "#x2", "#b 10", "#b+10",
		"#b-10", "#b1_0", "#b010 ", " #b010", "2", "@2", "#b\x0010", "#b#b1")
	checkValues(t, false, "(_ BitVec 1)", "#b", "#b2", "#b00", "#b-", "true", "1")
	checkValues(t, false, bitsOf(64), "#b"+strings.Repeat("1", 63), "#b"+strings.Repeat("1", 65), "#b"+strings.Repeat("0", 63), "#b"+strings.Repeat("0", 65))
	checkValues(t, false, "U", "", "@", "0", "1", "@00", "@01", "@-0", "@-1", "@+1", "@1 ", " @1", "@ 1", "@@1", "@1@", "@1.0", "@1/2", "@a", "@0x1",
		"@1_0", "@000001", "@0000001", "@1\x00", "@1;", "@18446744073709551617", "U", "@U", "#b1")
	for _, sort := range []string{"", "V", "|U|", "a b", "@0", "bool", "(_ BitVec 0)", "(_ BitVec 65)", "(Array Int Bool)", "(Array Bool Int)",
		"(Array Int V)", "(Array Int (Array Int Int))", "(Array (Array Int Int) Int)", "(Array Int)", "Int ", "(Array Int Int"} {
		checkValues(t, false, sort, "", "0", "@0", "true", "#b0", "#b", "{0}", "{}", "{{0}}", "{0;{0}=1}", "{true}", "{0;1={0}}", "{@0}")
	}
}

func TestStage6NoArrays(t *testing.T) {
	checkValues(t, false, "(Array Int Int)", "", "{", "}", "{}", "{;}", "{0", "0}", "0", "{{0}", "{0}}", "{{0}}", "{0;}", "{0;1}", "{0;1=}", "{0;=5}",
		"{0;=}", "{0;1=5;}", "{;1=5}", "{1=5}", "{0=1;1=5}", "{0,1=5}", "{0;1=5=6}", "{0;1==5}", "{0;;1=5}", "{0 ;1=5}", "{0; 1=5}", "{0;1=5 }",
		"{0;1=5} ", " {0;1=5}", "{0;1=05}", "{0;01=5}", "{00;1=5}", "{-0;1=5}", "{0;1=-0}", "{0;-0=5}", "{+0}", "{0;+1=5}", "{0;1=+5}", "{0}{0}",
		"{0;1=5}{0}", "(0;1=5)", "[0;1=5]", "{1/2}", "{0;1/2=5}", "{0;1=1/2}", "{@0}", "{0;@1=5}", "{0;1=@5}", "{#b0}", "{0;1=true}", "{0;1=5\x00}",
		"{0;1={5}}", "{0;{1}=5}", "{0:1=5}")
	checkValues(t, false, "(Array Int Int)", "{0;3=7;1=5}", "{0;10=7;9=7}", "{0;1=5;1=5}", "{0;1=5;1=6}", "{0;-1=1;-2=1}", "{0;1=5;2=5;2=6;3=5}",
		"{0;1=5;3=5;2=5}", "{0;1=0}", "{5;1=5}", "{0;1=5;2=0}", "{0;1=0;2=5}", "{-3;-3=-3}")
	checkValues(t, false, "(Array Real Int)", "{0;1/2=1;1/3=1}", "{0;-1/3=1;-1/2=1}", "{0;2/4=1}", "{0;1/2=1;1/2=2}", "{1/2}")
	checkValues(t, false, "(Array U Int)", "{0;@2=1;@1=1}", "{0;@10=1;@9=1}", "{0;@1=1;@1=2}", "{0;@01=1}", "{0;@1000000=1}", "{0;1=1}", "{@0}")
	checkValues(t, false, "(Array U U)", "{@0;@1=@0}", "{@1000000}", "{@0;@1=@1000000}", "{0}", "{@0;@1=1}")
	checkValues(t, false, "(Array (_ BitVec 1) Int)", "{7;#b0=4}", "{7;#b0=7}", "{7;#b0=4;#b1=5}", "{7;#b1=5;#b0=4}", "{7;#b1=7}", "{7;#b01=5}",
		"{7;#b=5}", "{7;1=5}", "{7;#b2=5}")
	checkValues(t, false, "(Array (_ BitVec 2) Int)", "{7;#b00=4}", "{7;#b00=4;#b01=4}", "{7;#b10=4;#b01=4}", "{7;#b01=4;#b01=4}", "{7;#b01=4;#b10=7}", "{7;#b1=4}")
	checkValues(t, false, arrayOf(bitsOf(64), "Int"), "{0;"+wordText(64, 0)+"=1}", "{0;"+wordText(64, 1<<63)+"=1;"+wordText(64, 1<<63-1)+"=1}")
	checkValues(t, false, "Int", "{0}")
	checkValues(t, false, "Bool", "{false}")
}

func TestStage6SizesOfValues(t *testing.T) {
	most := impl.ValueMax
	checkValues(t, true, "Int", nines(most), minus(nines(most-1)), tenTo(most-1))
	checkValues(t, false, "Int", nines(most+1), minus(nines(most)), tenTo(most), nines(impl.IntDigits))
	checkValues(t, true, "Real", nines(most), "1/"+tenTo(most-3), minus(tenTo(most-4))+"/3", nines(999)+"/"+tenTo(999), minus(nines(998))+"/"+tenTo(999))
	checkValues(t, false, "Real", nines(most+1), "1/"+tenTo(most-2), minus(tenTo(most-3))+"/3", nines(1000)+"/"+tenTo(999), minus(nines(999))+"/"+tenTo(999))
	checkValues(t, true, "(Array Int Int)", "{"+nines(most-2)+"}", "{0;1="+nines(most-6)+"}", "{0;"+nines(most-6)+"=1}", "{"+nines(991)+";"+minus(nines(1000))+"=-100}")
	checkValues(t, false, "(Array Int Int)", "{"+nines(most-1)+"}", "{0;1="+nines(most-5)+"}", "{0;"+nines(most-5)+"=1}", "{"+nines(992)+";"+minus(nines(1000))+"=-100}")
	checkValues(t, true, "(Array Real Real)", "{1/"+tenTo(most-5)+"}")
	checkValues(t, false, "(Array Real Real)", "{1/"+tenTo(most-4)+"}")
	checkValues(t, true, "U", "@0", "@9", "@99999", "@100000", "@999999")
	checkValues(t, false, "U", "@1000000", "@9999999", "@0999999", "@10000000", "@"+nines(most-1), "@"+nines(most))
	checkValues(t, true, "(Array U U)", "{@999999;@999998=@0;@999999=@1}")
}

func TestStage6NumbersOfEntries(t *testing.T) {
	for _, sort := range []string{"(Array Int Int)", "(Array (_ BitVec 6) Int)", "(Array (_ BitVec 7) Int)", "(Array U Int)", "(Array Real Int)"} {
		checkValues(t, true, sort, entriesOf(sort, 1, impl.EntryMax), entriesOf(sort, 3, impl.EntryMax), entriesOf(sort, 1, impl.EntryMax-1))
		checkValues(t, false, sort, entriesOf(sort, 1, impl.EntryMax+1), entriesOf(sort, 1, impl.EntryMax+3))
	}
	checkValues(t, true, "(Array (_ BitVec 5) Int)", entriesOf("(Array (_ BitVec 5) Int)", 1, 31))
}

// entriesOf is the text of an array of Ints, 0 but for n entries 1 from a number on.
func entriesOf(sort string, from, n int) string {
	index := impl.ReadSort(valueOwn(), sort).Index
	text := "{0"
	for i := from; i < from+n; i++ {
		at := strconv.Itoa(i)
		if index == "U" {
			at = "@" + at
		} else if w := wordWidth(index); w > 0 {
			at = wordText(w, uint64(i))
		}
		text += ";" + at + "=1"
	}
	return text + "}"
}

// A value with one byte more, less or other is no value, or another one that is.
func TestStage6NearValues(t *testing.T) {
	bytes := []byte("0123456789-+/@#b{};=,. at|ABx_\x00\n\xff")
	for _, c := range [][2]string{{"Bool", "true"}, {"Bool", "false"}, {"Int", "-120"}, {"Int", "0"}, {"Real", "-10/21"}, {"Real", "0"}, {"(_ BitVec 3)", "#b010"},
		{"(_ BitVec 1)", "#b0"}, {"U", "@0"}, {"|a b|", "@100200"}, {"(Array Int Int)", "{0;-1=5;3=71}"}, {"(Array Real Real)", "{1/2;-1/3=3/2;2=0}"},
		{"(Array (_ BitVec 2) (_ BitVec 1))", "{#b1;#b01=#b0;#b11=#b0}"}, {"(Array U |a b|)", "{@1;@0=@2;@10=@3;@11=@2}"}, {"(Array (_ BitVec 1) Int)", "{4;#b1=7}"}} {
		sort, v := c[0], c[1]
		checkValues(t, true, sort, v)
		for i := 0; i <= len(v); i++ {
			checkIsValue(t, valueOwn(), sort, v[:i])
			checkIsValue(t, valueOwn(), sort, v[i:])
			for _, x := range bytes {
				checkIsValue(t, valueOwn(), sort, v[:i]+string([]byte{x})+v[i:])
				if i < len(v) {
					checkIsValue(t, valueOwn(), sort, v[:i]+string([]byte{x})+v[i+1:])
				}
			}
			if i < len(v) {
				checkIsValue(t, valueOwn(), sort, v[:i]+v[i+1:])
			}
		}
	}
}

// Every text of some sort is asked of every other one.
func TestStage6ValuesOfOtherSorts(t *testing.T) {
	var values []string
	sorts := append(partSorts(), "Bool", "(Array Int Int)", "(Array Real U)", "(Array (_ BitVec 1) (_ BitVec 2))", "(Array U Int)", "V", "")
	for _, sort := range append(partSorts(), "Bool") {
		values = append(values, ascending(sort)...)
	}
	for _, v := range slices.Clone(values) {
		values = append(values, "{"+v+"}", "{0;1="+v+"}", "{@0;1="+v+"}", "{@0;"+v+"=@1}", "{#b00;#b1="+v+"}", "{1;"+v+"=0}")
	}
	for _, sort := range sorts {
		for _, v := range values {
			checkIsValue(t, valueOwn(), sort, v)
		}
	}
}

// Whether an own sort is one hangs on the list alone, which may be any.
func TestStage6ValuesWithAnySorts(t *testing.T) {
	for _, own := range [][]string{nil, {}, {"V"}, {"U", "U"}, {"", "Int", "Bool", "|", "U"}, {"a|b"}, oddSymbols()} {
		for _, sort := range []string{"U", "V", "|a b|", "Int", "Bool", "", "||", "(Array U V)", "(Array V V)", "(Array Int U)", "|(Array U U)|", "|1|"} {
			for _, v := range []string{"@0", "0", "true", "{@0}", "{@0;0=@1}", "{@0;@0=@1}", ""} {
				checkIsValue(t, own, sort, v)
			}
			if got := impl.FirstValue(own, sort); (got == "") != (impl.ReadSort(own, sort).Kind == impl.SortNone) {
				t.Errorf("FirstValue(%q, %q) = %q", own, sort, got)
			}
		}
	}
}

func TestStage6FirstValues(t *testing.T) {
	own := oddSymbols()
	kept := slices.Clone(own)
	for sort, info := range allSorts(own) {
		want := plainFirst(own, info)
		if got := impl.FirstValue(own, sort); got != want || !impl.IsValue(own, sort, got) {
			t.Errorf("FirstValue(%q) = %q, want %q", sort, got, want)
		}
	}
	for _, sort := range []string{"", "V", "|U|", "Boole", "(_ BitVec 0)", "(_ BitVec 65)", "(Array Int Bool)", "(Array V Int)", "(Array Int (Array Int Int))", "@0"} {
		if got := impl.FirstValue(own, sort); got != "" {
			t.Errorf("FirstValue(%q) = %q", sort, got)
		}
	}
	if !slices.Equal(own, kept) {
		t.Errorf("the sorts were changed: %q", own)
	}
}

func plainFirst(own []string, info impl.SortInfo) string {
	switch info.Kind {
	case impl.SortBool:
		return "false"
	case impl.SortBits:
		return "#b" + strings.Repeat("0", info.Width)
	case impl.SortOwn:
		return "@0"
	case impl.SortArray:
		return "{" + plainFirst(own, impl.ReadSort(own, info.Elem)) + "}"
	}
	return "0"
}

// No value of a sort but an array's is before the first one, but for numbers.
func TestStage6FirstIsLeast(t *testing.T) {
	for _, sort := range append(partSorts(), "Bool") {
		for _, v := range ascending(sort) {
			if sort != "Int" && sort != "Real" && impl.ValueCmp(valueOwn(), sort, impl.FirstValue(valueOwn(), sort), v) > 0 {
				t.Errorf("%s: %s is before the first value", sort, v)
			}
		}
	}
}

func checkCmp(t *testing.T, sort, a, b string, want int) {
	t.Helper()
	own := valueOwn()
	if got := impl.ValueCmp(own, sort, a, b); got != want {
		t.Errorf("ValueCmp(%q, %s, %s) = %d, want %d", sort, short(a), short(b), got, want)
	}
	if !slices.Equal(own, valueOwn()) {
		t.Errorf("the sorts were changed: %q", own)
	}
}

func order(i, j int) int {
	switch {
	case i < j:
		return -1
	case i > j:
		return 1
	}
	return 0
}

func TestStage6Order(t *testing.T) {
	for _, sort := range append(partSorts(), "Bool") {
		values := ascending(sort)
		for i, a := range values {
			for j, b := range values {
				checkCmp(t, sort, a, b, order(i, j))
			}
		}
	}
}

// Arrays are in the order of their texts, which is not that of what they give.
func TestStage6OrderOfArrays(t *testing.T) {
	texts := map[string][]string{
		"(Array Int Int)":           {"{-1}", "{0}", "{0;-1=1}", "{0;-10=1}", "{0;1=10}", "{0;1=5}", "{0;1=5;3=7}", "{0;10=1}", "{0;9=1}", "{10}", "{9}"},
		"(Array Real Real)":         {"{0}", "{0;1/2=1}", "{0;1=1}", "{1/2}", "{1}", "{2}"},
		"(Array U Int)":             {"{0}", "{0;@10=1}", "{0;@2=1}", "{0;@9=1;@10=1}", "{1}"},
		"(Array (_ BitVec 2) Int)":  {"{10}", "{10;#b01=9}", "{10;#b01=9;#b10=9}", "{9}", "{9;#b10=10}"},
		"(Array Int (_ BitVec 33))": {"{" + wordText(33, 0) + "}", "{" + wordText(33, 1) + "}", "{" + wordText(33, 1<<32) + "}"},
	}
	for sort, values := range texts {
		slices.Sort(values)
		for i, a := range values {
			for j, b := range values {
				checkCmp(t, sort, a, b, order(i, j))
			}
		}
	}
	checkCmp(t, "(Array Int Int)", "{9}", "{10}", 1)
	checkCmp(t, "(Array Int Int)", "{0}", "{0;1=1}", 1) // "}" is behind ";"
}

func TestStage6OrderOfNoValues(t *testing.T) {
	for _, sort := range append(partSorts(), "Bool", "(Array Int Int)") {
		some := impl.FirstValue(valueOwn(), sort)
		for _, v := range []string{"", "x", " ", "@", "#b", "{}", "00", "-0", "@00", "tru", "{0;1=0}", "{0;2=1;1=1}", nines(impl.ValueMax + 1)} {
			checkCmp(t, sort, some, v, -2)
			checkCmp(t, sort, v, some, -2)
			checkCmp(t, sort, v, v, -2)
		}
		checkCmp(t, sort, some, some, 0)
	}
	for _, sort := range []string{"", "V", "(_ BitVec 65)", "(Array Int Bool)", "(Array Int (Array Int Int))"} {
		for _, v := range []string{"", "0", "@0", "{0}", "{{0}}", "true", "{true}"} {
			checkCmp(t, sort, v, v, -2)
		}
	}
	checkCmp(t, "Int", nines(impl.ValueMax), minus(nines(impl.ValueMax-1)), 1)
	checkCmp(t, "Int", nines(impl.ValueMax+1), "0", -2)
	checkCmp(t, "U", "@999999", "@1000000", -2)
	checkCmp(t, "Int", "1", "1/2", -2)
	checkCmp(t, "Real", "1", "1/2", 1)
}

// Numbers that are drawn are in the order of the library's.
func TestStage6DrawnOrder(t *testing.T) {
	r := rand.New(rand.NewSource(61))
	for range 3000 {
		a, b := drawInt(r, 1+r.Intn(60)), drawInt(r, 1+r.Intn(60))
		checkCmp(t, "Int", a, b, plainNumberOf(a).Cmp(plainNumberOf(b)))
		p, q := drawRat(r, 1+r.Intn(30)), drawRat(r, 1+r.Intn(30))
		checkCmp(t, "Real", p, q, plainNumberOf(p).Cmp(plainNumberOf(q)))
		w := 1 + r.Intn(64)
		x, y := wordText(w, r.Uint64()>>(64-w)), wordText(w, r.Uint64()>>(64-w))
		checkCmp(t, bitsOf(w), x, y, strings.Compare(x, y))
		i, j := r.Intn(1000000), r.Intn(1000000)>>r.Intn(20)
		checkCmp(t, "U", "@"+strconv.Itoa(i), "@"+strconv.Itoa(j), order(i, j))
	}
}
