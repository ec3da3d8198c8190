package tests

import (
	"math/rand"
	"regexp"
	"slices"
	"strconv"
	"strings"
	"testing"

	"loop.example/g00007/impl"
)

var (
	blankForm  = regexp.MustCompile(`^(?:[ \t\n\r]|;[^\n]*)+`)
	quotedForm = regexp.MustCompile(`^"((?:[ -!#-~\n]|"")*)`)
	barredForm = regexp.MustCompile(`^\|([ -\[\]-{}~]*)\|`)
	keyForm    = regexp.MustCompile(`^:([-+*/=%?!.$_~&^<>@A-Za-z0-9]+)`)
	bitsForm   = regexp.MustCompile(`^#b([01]+)`)
	hexForm    = regexp.MustCompile(`^#x([0-9a-fA-F]+)`)
	numberForm = regexp.MustCompile(`^([0-9]+)(\.[0-9]+)?`)
	nameForm   = regexp.MustCompile(`^[-+*/=%?!.$_~&^<>@A-Za-z][-+*/=%?!.$_~&^<>@A-Za-z0-9]*`)
)

// plainToken reads one token as the document tells it, by patterns; size 0 is a fault.
func plainToken(text string) (kind int, inner string, size int) {
	if m := quotedForm.FindStringSubmatch(text); m != nil {
		if !strings.HasPrefix(text[len(m[0]):], `"`) {
			return 0, "", 0
		}
		return impl.NodText, strings.ReplaceAll(m[1], `""`, `"`), len(m[0]) + 1
	}
	if m := barredForm.FindStringSubmatch(text); m != nil {
		return impl.NodName, m[1], len(m[0])
	}
	if m := keyForm.FindStringSubmatch(text); m != nil {
		return impl.NodKey, m[1], len(m[0])
	}
	if m := bitsForm.FindStringSubmatch(text); m != nil {
		return impl.NodBits, m[1], len(m[0])
	}
	if m := hexForm.FindStringSubmatch(text); m != nil {
		for _, c := range m[1] {
			n, _ := strconv.ParseUint(string(c), 16, 8)
			inner += strconv.FormatUint(16+n, 2)[1:]
		}
		return impl.NodBits, inner, len(m[0])
	}
	if m := numberForm.FindStringSubmatch(text); m != nil {
		if len(m[1]) > 1 && m[1][0] == '0' {
			return 0, "", 0
		}
		if m[2] != "" {
			return impl.NodDec, m[0], len(m[0])
		}
		return impl.NodInt, m[0], len(m[0])
	}
	if m := nameForm.FindString(text); m != "" {
		return impl.NodName, m, len(m)
	}
	return 0, "", 0
}

// plainRead reads a short text (no limits) the plain way.
func plainRead(text string) impl.TreeRes {
	var nodes []impl.Node
	var open []int
	count := func(n impl.Node) {
		if len(open) > 0 {
			nodes[open[len(open)-1]].Kids++
		}
		nodes = append(nodes, n)
	}
	for at := 0; at < len(text); {
		if m := blankForm.FindString(text[at:]); m != "" {
			at += len(m)
			continue
		}
		switch text[at] {
		case '(':
			count(list(0, at))
			open = append(open, len(nodes)-1)
			at++
			continue
		case ')':
			if len(open) == 0 {
				return impl.TreeRes{Err: impl.TreeClose, At: at}
			}
			open = open[:len(open)-1]
			at++
			continue
		}
		kind, inner, size := plainToken(text[at:])
		if size == 0 {
			return impl.TreeRes{Err: impl.TreeByte, At: at}
		}
		count(leaf(kind, inner, at))
		at += size
	}
	if len(open) > 0 {
		return impl.TreeRes{Err: impl.TreeOpen, At: nodes[open[len(open)-1]].At}
	}
	return impl.TreeRes{Nodes: nodes}
}

// unplaced is a copy of nodes without their places.
func unplaced(nodes []impl.Node) []impl.Node {
	bare := slices.Clone(nodes)
	for i := range bare {
		bare[i].At = 0
	}
	return bare
}

// checkRound is promise 2 for one row of trees: it is read from what is written, and that is written the same.
func checkRound(t *testing.T, nodes []impl.Node) {
	t.Helper()
	if !impl.GoodTree(nodes) {
		t.Errorf("not good: %v", nodes)
		return
	}
	written := impl.WriteTree(nodes)
	again := impl.ReadTree(written)
	if again.Err != impl.TreeOk || !slices.Equal(unplaced(again.Nodes), unplaced(nodes)) {
		t.Errorf("%v is written %q, which is read as %v", nodes, short(written), again)
	}
	if twice := impl.WriteTree(again.Nodes); twice != written {
		t.Errorf("%q is read and written %q", short(written), short(twice))
	}
}

// checkPlain holds ReadTree against the plain way, and what it read against promise 2.
func checkPlain(t *testing.T, text string) {
	t.Helper()
	want := plainRead(text)
	checkRead(t, text, want)
	if want.Err == impl.TreeOk {
		checkRound(t, want.Nodes)
	}
}

func TestReadAllShort(t *testing.T) {
	const bytes = "() \n;\"|:#bx01.a-\\'\t"
	var grow func(text string, more int)
	grow = func(text string, more int) {
		checkPlain(t, text)
		if more == 0 || t.Failed() {
			return
		}
		for i := range len(bytes) {
			grow(text+bytes[i:i+1], more-1)
		}
	}
	grow("", 4)
}

func TestReadEachByte(t *testing.T) {
	for c := range 256 {
		b := string([]byte{byte(c)})
		for _, around := range []string{"?", "a?", "?a", "1?2", "0?0", "\"?\"", "\"a?", "|?|", "|a?b", ":?", ":a?b", "#?", "#b?", "#x?", "#b1?", "#xa?", ";?\na", "(?)", "(a?)", "1.?", "-?"} {
			checkPlain(t, strings.ReplaceAll(around, "?", b))
		}
	}
}

func TestReadDrawn(t *testing.T) {
	r := rand.New(rand.NewSource(3))
	pieces := []string{"(", "(", ")", ")", " ", "\n", "\t", "\r", ";x\n", "; (\n", `"`, `""`, `"a"`, "|", "||", "|b c|", ":", ":k", "#", "#b", "#b10", "#x", "#xF0", "0", "1", "12", ".", "0.5", "a", "-", "<=", "x", "'", "\\", "\x80", "~"}
	for range 60000 {
		var text strings.Builder
		for range r.Intn(14) {
			text.WriteString(pieces[r.Intn(len(pieces))])
		}
		checkPlain(t, text.String())
	}
}

func TestWrite(t *testing.T) {
	for _, c := range []struct {
		nodes []impl.Node
		want  string
	}{
		{nil, ""},
		{[]impl.Node{}, ""},
		{[]impl.Node{list(0, 0)}, "()\n"},
		{[]impl.Node{list(1, 0), list(0, 0)}, "(())\n"},
		{[]impl.Node{list(2, 0), list(0, 0), list(0, 0)}, "(() ())\n"},
		{[]impl.Node{list(0, 0), list(0, 0)}, "()\n()\n"},
		{[]impl.Node{list(2, 0), list(1, 0), leaf(impl.NodInt, "1", 0), leaf(impl.NodName, "a", 0), leaf(impl.NodName, "b", 0)}, "((1) a)\nb\n"},
		{[]impl.Node{list(2, 9), leaf(impl.NodName, "a", -7), list(1, 1), list(1, 1), leaf(impl.NodKey, "k", 1)}, "(a ((:k)))\n"},
		{[]impl.Node{leaf(impl.NodName, "", 0)}, "||\n"},
		{[]impl.Node{leaf(impl.NodName, "a", 0), leaf(impl.NodName, "a b", 0), leaf(impl.NodName, "1a", 0), leaf(impl.NodName, "a1", 0)}, "a\n|a b|\n|1a|\na1\n"},
		{[]impl.Node{leaf(impl.NodName, "-1", 0), leaf(impl.NodName, ".5", 0), leaf(impl.NodName, "0.5", 0), leaf(impl.NodName, "#b1", 0), leaf(impl.NodName, ":k", 0), leaf(impl.NodName, `"`, 0), leaf(impl.NodName, ";", 0), leaf(impl.NodName, "a(", 0)}, "-1\n.5\n|0.5|\n|#b1|\n|:k|\n|\"|\n|;|\n|a(|\n"},
		{[]impl.Node{leaf(impl.NodName, "+-*/=%?!.$_~&^<>@", 0), leaf(impl.NodName, " !#'(),:;[]`{}", 0)}, "+-*/=%?!.$_~&^<>@\n| !#'(),:;[]`{}|\n"},
		{[]impl.Node{leaf(impl.NodText, "", 0), leaf(impl.NodText, `"`, 0), leaf(impl.NodText, `"a""b"`, 0), leaf(impl.NodText, "|\\\n", 0)}, "\"\"\n\"\"\"\"\n\"\"\"a\"\"\"\"b\"\"\"\n\"|\\\n\"\n"},
		{[]impl.Node{leaf(impl.NodBits, "0101", 0), leaf(impl.NodInt, "0", 0), leaf(impl.NodInt, "10", 0), leaf(impl.NodDec, "0.00", 0), leaf(impl.NodDec, "10.5", 0), leaf(impl.NodKey, "0a", 0)}, "#b0101\n0\n10\n0.00\n10.5\n:0a\n"},
	} {
		if got := impl.WriteTree(c.nodes); got != c.want {
			t.Errorf("%v: %q, want %q", c.nodes, got, c.want)
		}
		checkRound(t, c.nodes)
	}
}

// checkBad: nodes that are no row of trees at all.
func checkBad(t *testing.T, why string, nodes ...impl.Node) {
	t.Helper()
	if impl.GoodTree(nodes) {
		t.Errorf("%s: good", why)
	}
	if s := impl.WriteTree(nodes); s != "" {
		t.Errorf("%s: written %q", why, short(s))
	}
}

func TestBadNodes(t *testing.T) {
	a := leaf(impl.NodName, "a", 0)
	checkBad(t, "a member is missing", list(1, 0))
	checkBad(t, "a member is missing", list(2, 0), a)
	checkBad(t, "a member is missing", a, list(1, 0))
	checkBad(t, "an inner member is missing", list(2, 0), list(1, 0), a)
	checkBad(t, "Kids below 0", list(-1, 0))
	checkBad(t, "Kids below 0", list(-1, 0), a)
	checkBad(t, "Kids below 0 within", list(1, 0), list(-1, 0))
	checkBad(t, "Kids far above", list(int(^uint(0)>>1), 0), a)
	checkBad(t, "Kids far below", list(-int(^uint(0)>>1)-1, 0), a)
	checkBad(t, "a list with a Text", impl.Node{Kind: impl.NodList, Text: "("})
	checkBad(t, "a list with a Text", impl.Node{Kind: impl.NodList, Text: "x", Kids: 1}, a)
	for _, kind := range []int{0, -1, 8, 9, 1 << 40, -1 << 63} {
		checkBad(t, "Kind "+strconv.Itoa(kind), leaf(kind, "", 0))
		checkBad(t, "Kind "+strconv.Itoa(kind), leaf(kind, "a", 0))
		checkBad(t, "Kind "+strconv.Itoa(kind), list(1, 0), leaf(kind, "1", 0))
	}
	for kind, text := range map[int]string{impl.NodName: "a", impl.NodInt: "1", impl.NodDec: "1.5", impl.NodBits: "1", impl.NodText: "a", impl.NodKey: "a"} {
		checkRound(t, []impl.Node{leaf(kind, text, 0), a})
		checkBad(t, "Kids of what is no list", impl.Node{Kind: kind, Text: text, Kids: 1}, a)
		checkBad(t, "Kids of what is no list", impl.Node{Kind: kind, Text: text, Kids: -1})
	}
}

// Each Text of at most two bytes of each kind, against the patterns.
func TestTextsOfKinds(t *testing.T) {
	forms := map[int]*regexp.Regexp{
		impl.NodList: regexp.MustCompile(`^$`),
		impl.NodName: regexp.MustCompile(`^[ -\[\]-{}~]*$`),
		impl.NodInt:  regexp.MustCompile(`^(?:0|[1-9][0-9]*)$`),
		impl.NodDec:  regexp.MustCompile(`^(?:0|[1-9][0-9]*)\.[0-9]+$`),
		impl.NodBits: regexp.MustCompile(`^[01]+$`),
		impl.NodText: regexp.MustCompile(`^[ -~\n]*$`),
		impl.NodKey:  regexp.MustCompile(`^[-+*/=%?!.$_~&^<>@A-Za-z0-9]+$`),
	}
	check := func(text string) {
		for kind := impl.NodList; kind <= impl.NodKey; kind++ {
			nodes := []impl.Node{leaf(kind, text, 0)}
			if forms[kind].MatchString(text) {
				checkRound(t, nodes)
			} else {
				checkBad(t, "kind "+strconv.Itoa(kind)+" with "+strconv.Quote(text), nodes...)
			}
		}
	}
	check("")
	for a := range 256 {
		check(string([]byte{byte(a)}))
		for b := range 256 {
			check(string([]byte{byte(a), byte(b)}))
		}
	}
	for _, text := range []string{"007", "120", "0.0", "00.0", "1.05", "1.", ".1", "1.2.3", "1.a", "-1.5", "1 ", " 1", "10a", "#b1", "#x1", "0b1", "12", "k ", ":k", "a b", "|a|", `a\b`, "a|b", `"a"`, `a""b`, "é", "a\xff", "()", "(a)", "a;b", "a\nb", "a\rb", "a\tb", "a\x7f", "0.5\n", "1\n"} {
		check(text)
	}
}

func TestGoodTreeMax(t *testing.T) {
	many := slices.Repeat([]impl.Node{leaf(impl.NodName, "a", 0)}, impl.TreeMax)
	checkRound(t, many)
	checkBad(t, "a node too many", append(slices.Clone(many), many[0])...)
	checkBad(t, "a node too many", append(slices.Clone(many), list(0, 0))...)
	many[0] = list(impl.TreeMax-1, 0)
	checkRound(t, many)
	many[0].Kids++
	checkBad(t, "more Kids than nodes", many...)
}

func TestGoodTreeDeep(t *testing.T) {
	deep := slices.Repeat([]impl.Node{list(1, 0)}, impl.TreeDeep)
	a := leaf(impl.NodName, "a", 0)
	checkRound(t, append(slices.Clone(deep), a))
	checkRound(t, append(slices.Clone(deep[1:]), list(0, 0)))
	checkBad(t, "a list too deep", append(slices.Clone(deep), list(0, 0))...)
	checkBad(t, "a list too deep", append(slices.Clone(deep), list(1, 0), a)...)
	// Side by side, and behind a deep list that is ended, lists are not within each other.
	checkRound(t, append(append(append(slices.Clone(deep), a), deep...), a))
	wide := slices.Clone(deep)
	wide[0].Kids = 2
	wide = append(append(wide, a), deep[:impl.TreeDeep-1]...)
	checkRound(t, append(slices.Clone(wide), a))
	wide[len(wide)-1].Kids = 2
	checkBad(t, "a list too deep in the last member", append(append(slices.Clone(wide), a), list(0, 0), list(1, 0), list(0, 0))...)
	wide[len(wide)-1].Kids = 1
	checkBad(t, "a list too deep in the last member", append(slices.Clone(wide), list(0, 0))...)
}

// What is written may be longer than TextMax; then the nodes are not good, and are written all the same.
func TestGoodTreeTextMax(t *testing.T) {
	const most = impl.TextMax
	name := strings.Repeat("n", most)
	for _, c := range []struct {
		nodes []impl.Node
		good  bool
		want  string
	}{
		{[]impl.Node{leaf(impl.NodName, name[1:], 0)}, true, name[1:] + "\n"},
		{[]impl.Node{leaf(impl.NodName, name, 0)}, false, name + "\n"},
		{[]impl.Node{leaf(impl.NodName, name[3:]+" ", 0)}, false, "|" + name[3:] + " |\n"},
		{[]impl.Node{leaf(impl.NodName, name[4:]+" ", 0)}, true, "|" + name[4:] + " |\n"},
		{[]impl.Node{leaf(impl.NodKey, name[2:], 0)}, true, ":" + name[2:] + "\n"},
		{[]impl.Node{leaf(impl.NodKey, name[1:], 0)}, false, ":" + name[1:] + "\n"},
		{[]impl.Node{leaf(impl.NodText, name[3:], 0)}, true, `"` + name[3:] + "\"\n"},
		{[]impl.Node{leaf(impl.NodText, name[2:], 0)}, false, `"` + name[2:] + "\"\n"},
		{[]impl.Node{leaf(impl.NodText, strings.Repeat(`"`, (most-3)/2), 0)}, true, `"` + strings.Repeat(`"`, most-4) + "\"\n"},
		{[]impl.Node{leaf(impl.NodText, strings.Repeat(`"`, most), 0)}, false, `"` + strings.Repeat(`"`, 2*most) + "\"\n"},
		{[]impl.Node{leaf(impl.NodBits, strings.Repeat("1", most-3), 0)}, true, "#b" + strings.Repeat("1", most-3) + "\n"},
		{[]impl.Node{leaf(impl.NodBits, strings.Repeat("1", most-2), 0)}, false, "#b" + strings.Repeat("1", most-2) + "\n"},
		{[]impl.Node{leaf(impl.NodInt, strings.Repeat("1", most), 0)}, false, strings.Repeat("1", most) + "\n"},
		{[]impl.Node{leaf(impl.NodName, name[3:], 0), list(0, 0)}, false, name[3:] + "\n()\n"},
		{[]impl.Node{leaf(impl.NodName, name[4:], 0), list(0, 0)}, true, name[4:] + "\n()\n"},
		{[]impl.Node{list(2, 0), leaf(impl.NodName, name[5:], 0), leaf(impl.NodInt, "1", 0)}, true, "(" + name[5:] + " 1)\n"},
		{[]impl.Node{list(2, 0), leaf(impl.NodName, name[4:], 0), leaf(impl.NodInt, "1", 0)}, false, "(" + name[4:] + " 1)\n"},
	} {
		if got := impl.WriteTree(c.nodes); got != c.want {
			t.Errorf("%d bytes are written, want %d: %q, want %q", len(got), len(c.want), short(got), short(c.want))
		}
		if got := impl.GoodTree(c.nodes); got != c.good {
			t.Errorf("%d bytes written: good is %v", len(c.want), got)
		}
		if c.good {
			checkRound(t, c.nodes)
		}
	}
	checkBad(t, "a Text too long", leaf(impl.NodName, name+"n", 0))
	checkBad(t, "a Text too long", leaf(impl.NodText, name+"n", 0))
	checkBad(t, "Texts too long together", leaf(impl.NodName, name, 0), leaf(impl.NodInt, "1", 0))
	checkBad(t, "Texts too long together", leaf(impl.NodInt, "1", 0), list(1, 0), leaf(impl.NodName, name, 0))
	if s := impl.WriteTree([]impl.Node{leaf(impl.NodName, name, 0), list(0, 0), leaf(impl.NodName, "", 0)}); s != name+"\n()\n||\n" {
		t.Errorf("Texts of just TextMax bytes: %q", short(s))
	}
	long := impl.ReadTree("#x" + strings.Repeat("0", most/4+1))
	checkBad(t, "bits read from #x whose Text is longer than TextMax", long.Nodes...)
}

// drawTree adds a tree to nodes, with lists at most deep below its root; its Texts are short and of all that the kinds have.
func drawTree(r *rand.Rand, nodes []impl.Node, deep int) []impl.Node {
	draw := func(bytes string, least int) string {
		text := make([]byte, least+r.Intn(4))
		for i := range text {
			text[i] = bytes[r.Intn(len(bytes))]
		}
		return string(text)
	}
	whole := strconv.Itoa(r.Intn(1 << r.Intn(20)))
	switch r.Intn(9) {
	case 0:
		return append(nodes, leaf(impl.NodName, draw("ab-.<09 \"#:;()'~", 0), r.Int()))
	case 1:
		return append(nodes, leaf(impl.NodInt, whole, 0))
	case 2:
		return append(nodes, leaf(impl.NodDec, whole+"."+draw("0123456789", 1), -1))
	case 3:
		return append(nodes, leaf(impl.NodBits, draw("01", 1), 0))
	case 4:
		return append(nodes, leaf(impl.NodText, draw("\"\"\"a \n|\\;", 0), 0))
	case 5:
		return append(nodes, leaf(impl.NodKey, draw("ab-.<09@", 1), 0))
	}
	kids := r.Intn(4)
	if deep == 0 {
		kids = 0
	}
	nodes = append(nodes, list(kids, 0))
	for range kids {
		nodes = drawTree(r, nodes, deep-1)
	}
	return nodes
}

func TestRoundDrawn(t *testing.T) {
	r := rand.New(rand.NewSource(33))
	for range 20000 {
		var nodes []impl.Node
		for range r.Intn(5) {
			nodes = drawTree(r, nodes, 5)
		}
		checkRound(t, nodes)
	}
}

// ends gives where the tree that begins at nodes[at] ends, or -1: the plain way to say that Kids fit.
func ends(nodes []impl.Node, at int) int {
	if at == len(nodes) || nodes[at].Kids < 0 {
		return -1
	}
	end := at + 1
	for range nodes[at].Kids {
		if end = ends(nodes, end); end < 0 {
			return -1
		}
	}
	return end
}

func TestKidsDrawn(t *testing.T) {
	r := rand.New(rand.NewSource(333))
	for range 100000 {
		var nodes []impl.Node
		for range r.Intn(7) {
			if r.Intn(2) == 0 {
				nodes = append(nodes, leaf(impl.NodInt, "1", 0))
			} else {
				nodes = append(nodes, list(r.Intn(5)-r.Intn(2), 0))
			}
		}
		at := 0
		for at >= 0 && at < len(nodes) {
			at = ends(nodes, at)
		}
		if at >= 0 {
			checkRound(t, nodes)
		} else {
			checkBad(t, "Kids that do not fit", nodes...)
		}
	}
}
