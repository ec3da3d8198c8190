package tests

import (
	"math/rand"
	"slices"
	"strconv"
	"strings"
	"testing"

	"loop.example/g00007/impl"
)

func (a plainArray) get(at string) string {
	if is, has := a.is[at]; has {
		return is
	}
	return a.rest
}

// written is the array's value, "" if it has none.
func (a plainArray) written() string {
	ats := make([]string, 0, len(a.is))
	for at := range a.is {
		ats = append(ats, at)
	}
	slices.SortFunc(ats, func(x, y string) int { return plainNumberOf(x).Cmp(plainNumberOf(y)) })
	text := "{" + a.rest
	for _, at := range ats {
		text += ";" + at + "=" + a.is[at]
	}
	if len(ats) > 60 || len(text)+1 > 2000 {
		return ""
	}
	return text + "}"
}

// turned has its rest at the word of zeros changed: all that it gives elsewhere is written out, for words of 7 bits and less.
func (a plainArray) turned(w int, rest string) plainArray {
	b := plainArray{rest: rest, is: map[string]string{}}
	for n := uint64(1); n < 1<<w; n++ {
		if is := a.get(wordText(w, n)); is != rest {
			b.is[wordText(w, n)] = is
		}
	}
	return b
}

func plainGet(own []string, sort, a, i string) string {
	info := impl.ReadSort(own, sort)
	if info.Kind != impl.SortArray || !isPlainValue(own, sort, a) || !isPlainValue(own, info.Index, i) {
		return ""
	}
	return cutArray(a).get(i)
}

func plainPut(own []string, sort, a, i, v string) string {
	info := impl.ReadSort(own, sort)
	if info.Kind != impl.SortArray || !isPlainValue(own, sort, a) || !isPlainValue(own, info.Index, i) || !isPlainValue(own, info.Elem, v) {
		return ""
	}
	array := cutArray(a)
	if strings.Trim(i, "0") != "#b" {
		array.is[i] = v
		if v == array.rest {
			delete(array.is, i)
		}
		return array.written()
	}
	w := wordWidth(info.Index)
	if v == array.rest {
		return a
	}
	if w > 7 { // more than 60 of all words have the rest, and would be entries
		return ""
	}
	return array.turned(w, v).written()
}

func checkGet(t *testing.T, sort, a, i string) string {
	t.Helper()
	own := valueOwn()
	got, want := impl.ArrayGet(own, sort, a, i), plainGet(own, sort, a, i)
	if got != want {
		t.Errorf("ArrayGet(%q, %s, %s) = %s, want %s", sort, short(a), short(i), short(got), short(want))
	}
	if !slices.Equal(own, valueOwn()) {
		t.Errorf("the sorts were changed: %q", own)
	}
	return got
}

func checkPut(t *testing.T, sort, a, i, v string) string {
	t.Helper()
	own := valueOwn()
	got, want := impl.ArrayPut(own, sort, a, i, v), plainPut(own, sort, a, i, v)
	if got != want {
		t.Errorf("ArrayPut(%q, %s, %s, %s) = %s, want %s", sort, short(a), short(i), short(v), short(got), short(want))
	}
	if got != "" && (!impl.IsValue(own, sort, got) || impl.ArrayGet(own, sort, got, i) != v) {
		t.Errorf("ArrayPut(%q, %s, %s, %s) = %s", sort, short(a), short(i), short(v), short(got))
	}
	if !slices.Equal(own, valueOwn()) {
		t.Errorf("the sorts were changed: %q", own)
	}
	return got
}

func checkPutIs(t *testing.T, sort, a, i, v, want string) {
	t.Helper()
	if got := checkPut(t, sort, a, i, v); got != want {
		t.Errorf("ArrayPut(%q, %s, %s, %s) = %s, want %s", sort, short(a), short(i), short(v), short(got), short(want))
	}
}

func TestStage6Puts(t *testing.T) {
	s := "(Array Int Int)"
	checkPutIs(t, s, "{0;1=5}", "1", "0", "{0}")
	checkPutIs(t, s, "{0}", "1", "5", "{0;1=5}")
	checkPutIs(t, s, "{0}", "1", "0", "{0}")
	checkPutIs(t, s, "{0}", "0", "0", "{0}")
	checkPutIs(t, s, "{0}", "0", "1", "{0;0=1}")
	checkPutIs(t, s, "{0;2=1;9=1}", "-1", "7", "{0;-1=7;2=1;9=1}")
	checkPutIs(t, s, "{0;2=1;9=1}", "5", "7", "{0;2=1;5=7;9=1}")
	checkPutIs(t, s, "{0;2=1;9=1}", "10", "7", "{0;2=1;9=1;10=7}")
	checkPutIs(t, s, "{0;2=1;9=1}", "2", "7", "{0;2=7;9=1}")
	checkPutIs(t, s, "{0;2=1;9=1}", "9", "7", "{0;2=1;9=7}")
	checkPutIs(t, s, "{0;2=1;9=1}", "2", "1", "{0;2=1;9=1}")
	checkPutIs(t, s, "{0;2=1;5=1;9=1}", "2", "0", "{0;5=1;9=1}")
	checkPutIs(t, s, "{0;2=1;5=1;9=1}", "5", "0", "{0;2=1;9=1}")
	checkPutIs(t, s, "{0;2=1;5=1;9=1}", "9", "0", "{0;2=1;5=1}")
	checkPutIs(t, s, "{0;2=1;5=1;9=1}", "3", "0", "{0;2=1;5=1;9=1}")
	checkPutIs(t, "(Array Real Real)", "{0;1/2=1}", "1/3", "2/3", "{0;1/3=2/3;1/2=1}")
	checkPutIs(t, "(Array Real Real)", "{1/2;-1/2=1}", "-1/3", "1/2", "{1/2;-1/2=1}")
	checkPutIs(t, "(Array U |a b|)", "{@0;@9=@1}", "@10", "@2", "{@0;@9=@1;@10=@2}")
	checkPutIs(t, "(Array U |a b|)", "{@1;@9=@0}", "@0", "@0", "{@1;@0=@0;@9=@0}")
	checkPutIs(t, "(Array U |a b|)", "{@1;@0=@0}", "@0", "@1", "{@1}")
	checkPutIs(t, "(Array Int (_ BitVec 2))", "{#b00;1=#b01}", "0", "#b11", "{#b00;0=#b11;1=#b01}")
}

func TestStage6Gets(t *testing.T) {
	for _, c := range [][4]string{
		{"(Array Int Int)", "{0;-2=9;5=1}", "-2", "9"}, {"(Array Int Int)", "{0;-2=9;5=1}", "5", "1"}, {"(Array Int Int)", "{0;-2=9;5=1}", "0", "0"},
		{"(Array Int Int)", "{7}", nines(40), "7"}, {"(Array Real U)", "{@1;-1/2=@2;1/2=@3}", "1/2", "@3"}, {"(Array Real U)", "{@1;-1/2=@2;1/2=@3}", "1/3", "@1"},
		{"(Array U Real)", "{1/2;@0=2}", "@0", "2"}, {"(Array U Real)", "{1/2;@0=2}", "@1", "1/2"}, {"(Array (_ BitVec 1) Int)", "{4;#b1=7}", "#b1", "7"},
		{"(Array (_ BitVec 1) Int)", "{4;#b1=7}", "#b0", "4"}, {"(Array (_ BitVec 2) (_ BitVec 1))", "{#b1;#b01=#b0}", "#b01", "#b0"},
		{"(Array (_ BitVec 2) (_ BitVec 1))", "{#b1;#b01=#b0}", "#b11", "#b1"},
	} {
		if got := checkGet(t, c[0], c[1], c[2]); got != c[3] {
			t.Errorf("ArrayGet(%q, %q, %q) = %q, want %q", c[0], c[1], c[2], got, c[3])
		}
	}
}

// Of arrays over bits the rest stands at 0: what is put there turns the others into entries.
func TestStage6PutsAtZero(t *testing.T) {
	one, two := "(Array (_ BitVec 1) Int)", "(Array (_ BitVec 2) Int)"
	checkPutIs(t, one, "{4}", "#b0", "7", "{7;#b1=4}")
	checkPutIs(t, one, "{4}", "#b0", "4", "{4}")
	checkPutIs(t, one, "{4}", "#b1", "7", "{4;#b1=7}")
	checkPutIs(t, one, "{4;#b1=7}", "#b0", "7", "{7}")
	checkPutIs(t, one, "{4;#b1=7}", "#b0", "4", "{4;#b1=7}")
	checkPutIs(t, one, "{4;#b1=7}", "#b0", "9", "{9;#b1=7}")
	checkPutIs(t, one, "{4;#b1=7}", "#b1", "4", "{4}")
	checkPutIs(t, two, "{4;#b10=7}", "#b00", "7", "{7;#b01=4;#b11=4}")
	checkPutIs(t, two, "{4;#b01=7;#b10=7;#b11=7}", "#b00", "7", "{7}")
	checkPutIs(t, two, "{4;#b01=7;#b10=8;#b11=7}", "#b00", "7", "{7;#b10=8}")
	checkPutIs(t, two, "{4;#b01=7;#b10=8;#b11=7}", "#b00", "5", "{5;#b01=7;#b10=8;#b11=7}")
	checkPutIs(t, two, "{4}", "#b00", "5", "{5;#b01=4;#b10=4;#b11=4}")
	checkPutIs(t, two, "{4;#b01=5;#b11=5}", "#b10", "5", "{4;#b01=5;#b10=5;#b11=5}")
}

// Every index but that of zeros has an entry: 31 of them for words of 5 bits; for 6 bits all but 60 must have the new rest.
func TestStage6FullArraysOverBits(t *testing.T) {
	for w := 1; w <= impl.MaxWidth; w++ {
		sort, zero := arrayOf(bitsOf(w), "Int"), wordText(w, 0)
		turned := checkPut(t, sort, "{3}", zero, "8")
		if (turned != "") != (w <= 5) {
			t.Errorf("words of %d bits: %s", w, short(turned))
		}
		checkPutIs(t, sort, "{3}", zero, "3", "{3}")
		if turned == "" {
			continue
		}
		if got := len(cutArray(turned).ats); got != 1<<w-1 {
			t.Errorf("words of %d bits: %d entries", w, got)
		}
		checkPutIs(t, sort, turned, zero, "3", "{3}")
		checkPutIs(t, sort, turned, wordText(w, 1), "8", strings.Replace(turned, ";"+wordText(w, 1)+"=3", "", 1))
	}
	six, seven := arrayOf(bitsOf(6), "Int"), arrayOf(bitsOf(7), "Int")
	for n := range impl.EntryMax + 1 {
		got := checkPut(t, six, entriesOf(six, 2, n), wordText(6, 0), "1")
		if (got != "") != (n >= 3) {
			t.Errorf("%d entries turned: %s", n, short(got))
		}
		checkPutIs(t, seven, entriesOf(seven, 2, n), wordText(7, 0), "1", "")
		checkPutIs(t, six, entriesOf(six, 2, n), wordText(6, 0), "2", "")
	}
	checkPutIs(t, six, entriesOf(six, 1, 60), wordText(6, 0), "1", "{1;#b111101=0;#b111110=0;#b111111=0}")
}

func TestStage6PutsOfManyEntries(t *testing.T) {
	for _, sort := range []string{"(Array Int Int)", "(Array U Int)", "(Array Real Int)", arrayOf(bitsOf(6), "Int"), arrayOf(bitsOf(20), "Int")} {
		full, fewer := entriesOf(sort, 2, impl.EntryMax), entriesOf(sort, 2, impl.EntryMax-1)
		ats := cutArray(entriesOf(sort, 1, impl.EntryMax+2)).ats
		checkPutIs(t, sort, fewer, ats[impl.EntryMax], "1", full)
		for _, at := range []string{ats[0], ats[impl.EntryMax+1]} {
			checkPutIs(t, sort, full, at, "1", "")
			checkPutIs(t, sort, full, at, "0", full)
			if checkPut(t, sort, fewer, at, "1") == "" {
				t.Errorf("%s: no %dth entry at %s", sort, impl.EntryMax, at)
			}
		}
		for i, at := range ats[1 : impl.EntryMax+1] {
			checkPutIs(t, sort, full, at, "1", full)
			checkPutIs(t, sort, full, at, "2", strings.Replace(full, ";"+at+"=1", ";"+at+"=2", 1))
			checkPutIs(t, sort, full, at, "0", strings.Replace(full, ";"+at+"=1", "", 1))
			if checkGet(t, sort, full, at) != "1" {
				t.Errorf("%s: entry %d", sort, i)
			}
		}
	}
	gap := strings.Replace(entriesOf("(Array Int Int)", 1, impl.EntryMax+1), ";30=1", "", 1)
	checkPutIs(t, "(Array Int Int)", gap, "30", "1", "")
	checkPutIs(t, "(Array Int Int)", gap, "31", "7", strings.Replace(gap, ";31=1", ";31=7", 1))
	checkPutIs(t, "(Array Int Int)", entriesOf("(Array Int Int)", 1, impl.EntryMax+1), "1", "0", "")
}

func TestStage6SizesOfArrays(t *testing.T) {
	s, most := "(Array Int Int)", impl.ValueMax
	checkPutIs(t, s, "{0}", "1", nines(most-6), "{0;1="+nines(most-6)+"}")
	checkPutIs(t, s, "{0}", "1", nines(most-5), "")
	checkPutIs(t, s, "{0}", nines(most-6), "1", "{0;"+nines(most-6)+"=1}")
	checkPutIs(t, s, "{0}", nines(most-5), "1", "")
	checkPutIs(t, s, "{0}", nines(most), "0", "{0}")
	checkPutIs(t, s, "{0}", nines(most+1), "0", "")
	checkPutIs(t, s, "{0}", minus(nines(most)), "0", "")
	checkPutIs(t, s, "{0}", "0", nines(most), "")
	whole := "{" + nines(most-2) + "}"
	checkPutIs(t, s, whole, "1", nines(most-2), whole)
	checkPutIs(t, s, whole, "1", "1", "")
	checkPutIs(t, s, "{"+nines(most-1)+"}", "1", nines(most-1), "")
	big := "{0;1=" + nines(990) + ";2=" + nines(most-990-9) + "}"
	checkPutIs(t, s, big, "1", tenTo(989), strings.Replace(big, "1="+nines(990), "1="+tenTo(989), 1))
	checkPutIs(t, s, big, "1", tenTo(990), "")
	checkPutIs(t, s, big, "1", "0", "{0;2="+nines(most-990-9)+"}")
	checkPutIs(t, s, big, "3", "1", "")
	checkPutIs(t, s, big, "3", "0", big)
	for _, i := range []string{nines(most), nines(most + 1), minus(nines(most - 1)), minus(nines(most)), nines(impl.IntDigits)} {
		if got := checkGet(t, s, big, i); (got == "0") != (len(i) <= most) {
			t.Errorf("ArrayGet at %s: %s", short(i), short(got))
		}
	}
	if got := checkGet(t, s, whole, "5"); got != nines(most-2) {
		t.Errorf("the rest of many digits: %s", short(got))
	}
	checkGet(t, s, "{"+nines(most-1)+"}", "5")
	checkTurnedSizes(t)
}

// checkTurnedSizes: an array over bits with few entries may have too many bytes when its rest becomes entries.
func checkTurnedSizes(t *testing.T) {
	t.Helper()
	s := arrayOf(bitsOf(5), "Int")
	for n := 50; n < 60; n++ { // 31 entries of 9 bytes and n digits, and the new rest
		got := checkPut(t, s, "{"+nines(n)+"}", wordText(5, 0), "1")
		if (got != "") != (3+31*(9+n) <= impl.ValueMax) {
			t.Errorf("%d digits turned: %s", n, short(got))
		}
	}
	checkPutIs(t, s, "{"+nines(100)+"}", wordText(5, 0), "1", "")
}

func TestStage6WrongArguments(t *testing.T) {
	own := valueOwn()
	for _, sort := range []string{"", "Bool", "Int", "Real", "U", "V", "(_ BitVec 1)", "(Array V Int)", "(Array Int V)", "(Array Int Bool)", "(Array Bool Int)",
		"(Array Int (Array Int Int))", "(Array (Array Int Int) Int)", "(Array Int Int", "Array"} {
		for _, a := range []string{"{0}", "0", "@0", "{@0}", "{true}", "{{0}}", "#b0", "true", ""} {
			for _, i := range []string{"0", "@0", "#b0", "true", "{0}", ""} {
				checkGet(t, sort, a, i)
				checkPutIs(t, sort, a, i, i, "")
			}
		}
	}
	for _, sort := range []string{"(Array Int Int)", "(Array U Int)", "(Array (_ BitVec 1) Int)", "(Array Int U)", "(Array Int (_ BitVec 2))", "(Array Real Real)"} {
		info := impl.ReadSort(own, sort)
		a, i, v := impl.FirstValue(own, sort), impl.FirstValue(own, info.Index), impl.FirstValue(own, info.Elem)
		checkPutIs(t, sort, a, i, v, a)
		for _, bad := range []string{"", " ", "x", "00", "-0", "01", "@", "@01", "@1000000", "@-1", "#b", "#b2", "#b000", "2/4", "{}", "{0", "{0}", "{0;1=0}", "{0;2=1;1=1}",
			"{0;1=1;1=1}", "{0;#b0=1}", "true", "Int", nines(impl.ValueMax + 1), "{" + nines(impl.ValueMax-1) + "}", entriesOf("(Array Int Int)", 1, 61)} {
			checkPut(t, sort, bad, i, v)
			checkPut(t, sort, a, bad, v)
			checkPut(t, sort, a, i, bad)
			checkGet(t, sort, bad, i)
			checkGet(t, sort, a, bad)
		}
	}
	for _, own := range [][]string{nil, {"V"}} {
		if got := impl.ArrayPut(own, "(Array U Int)", "{0}", "@0", "1") + impl.ArrayGet(own, "(Array U Int)", "{0}", "@0"); got != "" {
			t.Errorf("an array over U without U: %q", got)
		}
	}
}

// drawPart draws a value of a sort that is no array's; few of them, so that they meet.
func drawPart(r *rand.Rand, sort string) string {
	values := ascending(sort)
	return values[r.Intn(len(values))]
}

// Promise 5, its first part: what is put is got at its index, and elsewhere what was.
func TestStage6PutAndGet(t *testing.T) {
	r := rand.New(rand.NewSource(62))
	for _, index := range partSorts() {
		for _, elem := range partSorts() {
			sort := arrayOf(index, elem)
			a := impl.FirstValue(valueOwn(), sort)
			for range 10 {
				i, v := drawPart(r, index), drawPart(r, elem)
				b := checkPut(t, sort, a, i, v)
				if b == "" {
					continue
				}
				for _, j := range ascending(index) {
					want := checkGet(t, sort, a, j)
					if i == j {
						want = v
					}
					if got := checkGet(t, sort, b, j); got != want {
						t.Fatalf("%s: %s at %s put to %s gives %s at %s", sort, a, i, v, got, j)
					}
				}
				a = b
			}
		}
	}
}

// The second part, for all arrays from words of 2 bits to words of 1: of all texts of such a form there are just so many
// values as there are functions, and no two give the same.
func TestStage6OneTextOfAll(t *testing.T) {
	sort := arrayOf(bitsOf(2), bitsOf(1))
	given := map[string]string{}
	var grow func(text string, entries int)
	grow = func(text string, entries int) {
		if impl.IsValue(nil, sort, text+"}") {
			gives := ""
			for n := range uint64(4) {
				gives += impl.ArrayGet(nil, sort, text+"}", wordText(2, n))
			}
			if other, is := given[gives]; is {
				t.Errorf("%s} and %s give the same", text, other)
			}
			given[gives] = text + "}"
		}
		for n := uint64(0); n < 8 && entries < 4; n++ {
			grow(text+";"+wordText(2, n/2)+"="+wordText(1, n%2), entries+1)
		}
	}
	grow("{#b0", 0)
	grow("{#b1", 0)
	if len(given) != 16 {
		t.Errorf("%d values for 16 functions", len(given))
	}
}

// The second part, for arrays that are drawn: whatever was put before, and in whatever order, what gives the same is one text.
func TestStage6OneText(t *testing.T) {
	r := rand.New(rand.NewSource(63))
	for range 120 {
		w, elem := 1+r.Intn(4), partSorts()[r.Intn(len(partSorts()))]
		gives := make([]string, 1<<w)
		for n := range gives {
			gives[n] = drawPart(r, elem)
		}
		first := filled(t, r, arrayOf(bitsOf(w), elem), drawPart(r, elem), gives)
		second := filled(t, r, arrayOf(bitsOf(w), elem), drawPart(r, elem), gives)
		if first != second || first == "" {
			t.Fatalf("one function, two texts: %s, %s", first, second)
		}
	}
	for range 120 {
		index, elem := partSorts()[r.Intn(4)], partSorts()[r.Intn(len(partSorts()))]
		sort, rest := arrayOf(index, elem), drawPart(r, elem)
		first, second := "{"+rest+"}", "{"+rest+"}"
		for _, i := range r.Perm(len(ascending(index))) {
			second = checkPut(t, sort, second, ascending(index)[i], drawPart(r, elem))
		}
		gives := map[string]string{}
		for _, i := range r.Perm(len(ascending(index))) {
			gives[ascending(index)[i]] = drawPart(r, elem)
			first = checkPut(t, sort, first, ascending(index)[i], gives[ascending(index)[i]])
		}
		for i, v := range gives { // in the order of a map: none
			second = checkPut(t, sort, second, i, v)
		}
		if first != second || first == "" {
			t.Fatalf("one function, two texts: %s, %s", first, second)
		}
	}
}

// filled puts all that a function gives, in a drawn order, into an array that gave something else. (Over words of 4 bits no
// array has too many bytes.)
func filled(t *testing.T, r *rand.Rand, sort, rest string, gives []string) string {
	t.Helper()
	info := impl.ReadSort(valueOwn(), sort)
	w := wordWidth(info.Index)
	a := "{" + rest + "}"
	for range r.Intn(10) {
		a = checkPut(t, sort, a, wordText(w, uint64(r.Intn(1<<w))), drawPart(r, info.Elem))
	}
	for _, n := range r.Perm(len(gives)) {
		a = checkPut(t, sort, a, wordText(w, uint64(n)), gives[n])
	}
	return a
}

// Of two values of one array's sort that are drawn, not one text gives the same as another.
func TestStage6OtherTextsGiveOther(t *testing.T) {
	r := rand.New(rand.NewSource(64))
	seen := map[string]string{}
	for range 3000 {
		a := "{" + strconv.Itoa(r.Intn(2)) + "}"
		for range r.Intn(6) {
			a = checkPut(t, "(Array Int Int)", a, strconv.Itoa(r.Intn(5)), strconv.Itoa(r.Intn(3)))
		}
		gives := ""
		for i := range 6 {
			gives += checkGet(t, "(Array Int Int)", a, strconv.Itoa(i)) + " "
		}
		if other, has := seen[gives]; has && other != a {
			t.Fatalf("%s and %s give the same", a, other)
		}
		seen[gives] = a
	}
}
