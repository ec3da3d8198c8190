package tests

import (
	"slices"
	"strings"
	"testing"

	"loop.example/g00007/impl"
)

func list(kids, at int) impl.Node {
	return impl.Node{Kind: impl.NodList, Kids: kids, At: at}
}

func leaf(kind int, text string, at int) impl.Node {
	return impl.Node{Kind: kind, Text: text, At: at}
}

// checkRead asks for all of an answer: its Err, its At, and its nodes with their places.
func checkRead(t *testing.T, text string, want impl.TreeRes) {
	t.Helper()
	got := impl.ReadTree(text)
	if got.Err != want.Err || got.At != want.At || !slices.Equal(got.Nodes, want.Nodes) {
		t.Errorf("ReadTree(%q) = %v, want %v", short(text), got, want)
	}
}

func checkNodes(t *testing.T, text string, nodes ...impl.Node) {
	t.Helper()
	checkRead(t, text, impl.TreeRes{Nodes: nodes})
}

func checkFault(t *testing.T, text string, err, at int) {
	t.Helper()
	checkRead(t, text, impl.TreeRes{Err: err, At: at})
}

func TestReadTokens(t *testing.T) {
	for _, c := range []struct {
		text string
		node impl.Node
	}{
		{`""`, leaf(impl.NodText, "", 0)},
		{`"a b"`, leaf(impl.NodText, "a b", 0)},
		{"\"a\nb\"", leaf(impl.NodText, "a\nb", 0)},
		{`"|\;()#:'` + "`{}[],~ \"", leaf(impl.NodText, `|\;()#:'`+"`{}[],~ ", 0)},
		{`""""`, leaf(impl.NodText, `"`, 0)},
		{`""""""`, leaf(impl.NodText, `""`, 0)},
		{`"""a"`, leaf(impl.NodText, `"a`, 0)},
		{`"a"""`, leaf(impl.NodText, `a"`, 0)},
		{`"a""""b"`, leaf(impl.NodText, `a""b`, 0)},
		{`"a"" ""b"`, leaf(impl.NodText, `a" "b`, 0)},
		{"||", leaf(impl.NodName, "", 0)},
		{"|a|", leaf(impl.NodName, "a", 0)},
		{`|a "b" ;(c)|`, leaf(impl.NodName, `a "b" ;(c)`, 0)},
		{"|01|", leaf(impl.NodName, "01", 0)},
		{":k", leaf(impl.NodKey, "k", 0)},
		{":1", leaf(impl.NodKey, "1", 0)},
		{":01.5-<=@", leaf(impl.NodKey, "01.5-<=@", 0)},
		{"#b0", leaf(impl.NodBits, "0", 0)},
		{"#b0011", leaf(impl.NodBits, "0011", 0)},
		{"#x0123456789", leaf(impl.NodBits, "0000000100100011010001010110011110001001", 0)},
		{"#xabcdef", leaf(impl.NodBits, "101010111100110111101111", 0)},
		{"#xABCDEF", leaf(impl.NodBits, "101010111100110111101111", 0)},
		{"#xaBb", leaf(impl.NodBits, "101010111011", 0)},
		{"0", leaf(impl.NodInt, "0", 0)},
		{"9", leaf(impl.NodInt, "9", 0)},
		{"10", leaf(impl.NodInt, "10", 0)},
		{"0.0", leaf(impl.NodDec, "0.0", 0)},
		{"0.50", leaf(impl.NodDec, "0.50", 0)},
		{"10.00", leaf(impl.NodDec, "10.00", 0)},
		{"a", leaf(impl.NodName, "a", 0)},
		{"Zz09", leaf(impl.NodName, "Zz09", 0)},
		{"+-*/=%?!.$_~&^<>@", leaf(impl.NodName, "+-*/=%?!.$_~&^<>@", 0)},
		{"-1", leaf(impl.NodName, "-1", 0)},
		{".5", leaf(impl.NodName, ".5", 0)},
		{"()", list(0, 0)},
		{"( \t\r\n)", list(0, 0)},
	} {
		checkNodes(t, c.text, c.node)
		moved := c.node
		moved.At = 3
		checkNodes(t, " \t\r"+c.text+"\n", moved)
		moved.At = 1
		checkNodes(t, "("+c.text+")", list(1, 0), moved)
		checkNodes(t, "("+c.text+";)\n)", list(1, 0), moved)
	}
}

func TestReadTokensAtOnce(t *testing.T) {
	checkNodes(t, "1a", leaf(impl.NodInt, "1", 0), leaf(impl.NodName, "a", 1))
	checkNodes(t, "1.", leaf(impl.NodInt, "1", 0), leaf(impl.NodName, ".", 1))
	checkNodes(t, "1.a", leaf(impl.NodInt, "1", 0), leaf(impl.NodName, ".a", 1))
	checkNodes(t, "0..5", leaf(impl.NodInt, "0", 0), leaf(impl.NodName, "..5", 1))
	checkNodes(t, "1.2.3", leaf(impl.NodDec, "1.2", 0), leaf(impl.NodName, ".3", 3))
	checkNodes(t, "0.00x", leaf(impl.NodDec, "0.00", 0), leaf(impl.NodName, "x", 4))
	checkNodes(t, "12:k", leaf(impl.NodInt, "12", 0), leaf(impl.NodKey, "k", 2))
	checkNodes(t, ":k:l", leaf(impl.NodKey, "k", 0), leaf(impl.NodKey, "l", 2))
	checkNodes(t, "#b12", leaf(impl.NodBits, "1", 0), leaf(impl.NodInt, "2", 3))
	checkNodes(t, "#b1b", leaf(impl.NodBits, "1", 0), leaf(impl.NodName, "b", 3))
	checkNodes(t, "#xfg", leaf(impl.NodBits, "1111", 0), leaf(impl.NodName, "g", 3))
	checkNodes(t, "#b1#x1", leaf(impl.NodBits, "1", 0), leaf(impl.NodBits, "0001", 3))
	checkNodes(t, "#b1.0", leaf(impl.NodBits, "1", 0), leaf(impl.NodName, ".0", 3))
	checkNodes(t, `a"b"c`, leaf(impl.NodName, "a", 0), leaf(impl.NodText, "b", 1), leaf(impl.NodName, "c", 4))
	checkNodes(t, "a|b|c||", leaf(impl.NodName, "a", 0), leaf(impl.NodName, "b", 1), leaf(impl.NodName, "c", 4), leaf(impl.NodName, "", 5))
	checkNodes(t, `"a" "b"`, leaf(impl.NodText, "a", 0), leaf(impl.NodText, "b", 4))
	checkNodes(t, "()()", list(0, 0), list(0, 2))
	checkNodes(t, "(()a(1))b", list(3, 0), list(0, 1), leaf(impl.NodName, "a", 3), list(1, 4), leaf(impl.NodInt, "1", 5), leaf(impl.NodName, "b", 8))
	checkNodes(t, "a;b\nc", leaf(impl.NodName, "a", 0), leaf(impl.NodName, "c", 4))
	checkNodes(t, "1;.5", leaf(impl.NodInt, "1", 0))
}

func TestReadNotes(t *testing.T) {
	checkNodes(t, "")
	checkNodes(t, " \t\r\n ")
	checkNodes(t, ";")
	checkNodes(t, "; a")
	checkNodes(t, "; (a\n")
	checkNodes(t, "; \x00\x80\xff ' \" | \r)\n;")
	checkNodes(t, ";;\n;\na;)", leaf(impl.NodName, "a", 5))
	checkNodes(t, "(;)\n;)\n)", list(0, 0))
	checkFault(t, "(;)", impl.TreeOpen, 0)
	checkFault(t, ";\r'", impl.TreeOk, 0)
	checkFault(t, ";\n'", impl.TreeByte, 2)
}

func TestReadFaults(t *testing.T) {
	for _, c := range []struct {
		text    string
		err, at int
	}{
		{"'", impl.TreeByte, 0}, {" {", impl.TreeByte, 1}, {"a,b", impl.TreeByte, 1}, {`a\`, impl.TreeByte, 1},
		{"a\x00", impl.TreeByte, 1}, {"\x7f", impl.TreeByte, 0}, {"a\xc3\xa9", impl.TreeByte, 1}, {"\x0b", impl.TreeByte, 0}, {"\x0c", impl.TreeByte, 0},
		{`"`, impl.TreeByte, 0}, {` "x`, impl.TreeByte, 1}, {`"""`, impl.TreeByte, 0}, {`"a""`, impl.TreeByte, 0}, {`"a" "`, impl.TreeByte, 4},
		{"\"a\tb\"", impl.TreeByte, 0}, {"\"a\rb\"", impl.TreeByte, 0}, {"\"\x7f\"", impl.TreeByte, 0}, {"(\"\x80\")", impl.TreeByte, 1}, {"\"\x00\"", impl.TreeByte, 0},
		{"|", impl.TreeByte, 0}, {" |x", impl.TreeByte, 1}, {`|a\|`, impl.TreeByte, 0}, {"|a\n|", impl.TreeByte, 0}, {"|\t|", impl.TreeByte, 0}, {"|\x7f|", impl.TreeByte, 0}, {"|||", impl.TreeByte, 2}, {"|\xff|", impl.TreeByte, 0},
		{"#", impl.TreeByte, 0}, {"#b", impl.TreeByte, 0}, {"#x", impl.TreeByte, 0}, {"#b2", impl.TreeByte, 0}, {"#xg", impl.TreeByte, 0}, {"#B1", impl.TreeByte, 0}, {"#XA", impl.TreeByte, 0}, {"#1", impl.TreeByte, 0}, {"(#b )", impl.TreeByte, 1}, {"# b1", impl.TreeByte, 0}, {"#b1#", impl.TreeByte, 3},
		{":", impl.TreeByte, 0}, {": k", impl.TreeByte, 0}, {"::k", impl.TreeByte, 0}, {":(", impl.TreeByte, 0}, {":k:", impl.TreeByte, 2}, {":|k|", impl.TreeByte, 0}, {":\"", impl.TreeByte, 0},
		{"01", impl.TreeByte, 0}, {"00", impl.TreeByte, 0}, {"00.5", impl.TreeByte, 0}, {"01.", impl.TreeByte, 0}, {"(1 007)", impl.TreeByte, 3}, {"#b1200", impl.TreeOk, 0}, {"#b200", impl.TreeByte, 0}, {"#b0200", impl.TreeOk, 0}, {"1.5|", impl.TreeByte, 3},
		{")", impl.TreeClose, 0}, {"a)", impl.TreeClose, 1}, {"())", impl.TreeClose, 2}, {"(()) )(", impl.TreeClose, 5},
		{"(", impl.TreeOpen, 0}, {"(a", impl.TreeOpen, 0}, {"(a (b", impl.TreeOpen, 3}, {"(a (b)", impl.TreeOpen, 0}, {"() (", impl.TreeOpen, 3}, {"(((", impl.TreeOpen, 2}, {"((()", impl.TreeOpen, 1}, {"(a ; )", impl.TreeOpen, 0}, {`(a ")"`, impl.TreeOpen, 0}, {"(a |)|", impl.TreeOpen, 0},
	} {
		if c.err == impl.TreeOk {
			if r := impl.ReadTree(c.text); r.Err != impl.TreeOk {
				t.Errorf("ReadTree(%q) = %v", c.text, r)
			}
			continue
		}
		checkFault(t, c.text, c.err, c.at)
	}
}

// Of several faults the first from the left counts, and one that only the end of the text shows comes last.
func TestReadFirstFault(t *testing.T) {
	checkFault(t, ") '", impl.TreeClose, 0)
	checkFault(t, "' )", impl.TreeByte, 0)
	checkFault(t, `) "a`, impl.TreeClose, 0)
	checkFault(t, `"a )`, impl.TreeByte, 0)
	checkFault(t, "(a '", impl.TreeByte, 3)
	checkFault(t, "(a #b2)", impl.TreeByte, 3)
	checkFault(t, "(a 01", impl.TreeByte, 3)
	checkFault(t, "(a)) (b", impl.TreeClose, 3)
	checkFault(t, "|a ) '", impl.TreeByte, 0)
	checkFault(t, "01 )", impl.TreeByte, 0)
	checkFault(t, "1 ) 01", impl.TreeClose, 2)
	deep := strings.Repeat("(", impl.TreeDeep+1)
	checkFault(t, deep+"'", impl.TreeDeepErr, impl.TreeDeep)
	checkFault(t, "'"+deep, impl.TreeByte, 0)
	checkFault(t, ")"+deep, impl.TreeClose, 0)
	checkFault(t, deep[1:]+"'(", impl.TreeByte, impl.TreeDeep)
	many := strings.Repeat("a ", impl.TreeMax)
	checkFault(t, many+"b '", impl.TreeMany, len(many))
	checkFault(t, many+"b )", impl.TreeMany, len(many))
	checkFault(t, many+") b", impl.TreeClose, len(many))
	checkFault(t, many+"' b", impl.TreeByte, len(many))
	checkFault(t, "'"+many+"b", impl.TreeByte, 0)
	// What does not end in its form is no node, so it is not one too many either.
	checkFault(t, many+`"b`, impl.TreeByte, len(many))
	checkFault(t, many+"01", impl.TreeByte, len(many))
}

func TestReadTextMax(t *testing.T) {
	name := strings.Repeat("n", impl.TextMax)
	checkNodes(t, name, leaf(impl.NodName, name, 0))
	checkFault(t, name+"n", impl.TreeLong, 0)
	checkFault(t, name+" ", impl.TreeLong, 0)
	checkFault(t, strings.Repeat("'", impl.TextMax), impl.TreeByte, 0)
	checkFault(t, strings.Repeat("'", impl.TextMax+1), impl.TreeLong, 0)
	checkFault(t, strings.Repeat("(", impl.TextMax+1), impl.TreeLong, 0)
	checkNodes(t, strings.Repeat(" ", impl.TextMax))
	checkNodes(t, strings.Repeat(" ", impl.TextMax-1)+"a", leaf(impl.NodName, "a", impl.TextMax-1))
	checkFault(t, strings.Repeat(" ", impl.TextMax-1)+")", impl.TreeClose, impl.TextMax-1)
	checkFault(t, strings.Repeat(" ", impl.TextMax-1)+"(", impl.TreeOpen, impl.TextMax-1)
	digits := strings.Repeat("F", impl.TextMax-2)
	checkNodes(t, "#x"+digits, leaf(impl.NodBits, strings.Repeat("1111", impl.TextMax-2), 0))
	checkNodes(t, `"`+strings.Repeat(`""`, (impl.TextMax-2)/2)+`"`, leaf(impl.NodText, strings.Repeat(`"`, (impl.TextMax-2)/2), 0))
	checkFault(t, strings.Repeat(`"`, impl.TextMax-1), impl.TreeByte, 0)
}

func TestReadTreeMax(t *testing.T) {
	var nodes []impl.Node
	for i := range impl.TreeMax {
		nodes = append(nodes, leaf(impl.NodName, "a", 2*i))
	}
	many := strings.Repeat("a ", impl.TreeMax)
	checkNodes(t, many, nodes...)
	checkNodes(t, many+";", nodes...)
	for _, more := range []string{"b", "(", "()", `""`, "||", "#b1", ":k", "1", "0.5"} {
		checkFault(t, many+more, impl.TreeMany, len(many))
	}
	within := "(" + strings.Repeat("1 ", impl.TreeMax-1)
	if r := impl.ReadTree(within + ")"); r.Err != impl.TreeOk || len(r.Nodes) != impl.TreeMax || r.Nodes[0] != list(impl.TreeMax-1, 0) {
		t.Errorf("a list of %d members: %d at %d, %d nodes", impl.TreeMax-1, r.Err, r.At, len(r.Nodes))
	}
	checkFault(t, within+"2 )", impl.TreeMany, len(within))
	checkFault(t, within, impl.TreeOpen, 0)
	pairs := strings.Repeat("()", impl.TreeMax)
	if r := impl.ReadTree(pairs); r.Err != impl.TreeOk || len(r.Nodes) != impl.TreeMax || r.Nodes[impl.TreeMax-1] != list(0, 2*impl.TreeMax-2) {
		t.Errorf("%d empty lists: %d at %d, %d nodes", impl.TreeMax, r.Err, r.At, len(r.Nodes))
	}
	checkFault(t, pairs+"(", impl.TreeMany, len(pairs))
}

func TestReadTreeDeep(t *testing.T) {
	open, shut := strings.Repeat("(", impl.TreeDeep), strings.Repeat(")", impl.TreeDeep)
	var nodes []impl.Node
	for i := range impl.TreeDeep {
		nodes = append(nodes, list(1, i))
	}
	checkNodes(t, open+"a"+shut, append(slices.Clone(nodes), leaf(impl.NodName, "a", impl.TreeDeep))...)
	nodes[impl.TreeDeep-1].Kids = 0
	checkNodes(t, open+shut, nodes...)
	checkFault(t, open+"()"+shut, impl.TreeDeepErr, impl.TreeDeep)
	checkFault(t, open+"a(", impl.TreeDeepErr, impl.TreeDeep+1)
	checkFault(t, open+")(("+shut, impl.TreeDeepErr, impl.TreeDeep+2)
	if r := impl.ReadTree(open + ")()" + shut[1:] + open + shut); r.Err != impl.TreeOk || len(r.Nodes) != 2*impl.TreeDeep+1 {
		t.Errorf("lists that were closed still count as open: %v", r)
	}
	checkFault(t, open, impl.TreeOpen, impl.TreeDeep-1)
	checkFault(t, open+shut+")", impl.TreeClose, 2*impl.TreeDeep)
	// One byte that is both: a node too many, and a list too deep.
	full := strings.Repeat("a ", impl.TreeMax-impl.TreeDeep) + open
	checkFault(t, full+"(", impl.TreeMany, len(full))
	checkFault(t, full[2:]+"(", impl.TreeDeepErr, len(full)-2)
	checkFault(t, full+"a", impl.TreeMany, len(full))
}

func TestReadIsNew(t *testing.T) {
	text := "(a (b) c)"
	first, second := impl.ReadTree(text), impl.ReadTree(text)
	first.Nodes[0].Text = "changed"
	first.Nodes = append(first.Nodes[:1], list(0, 0))
	checkRead(t, text, second)
	nodes := second.Nodes
	before := slices.Clone(nodes)
	impl.WriteTree(nodes)
	impl.GoodTree(nodes)
	if !slices.Equal(nodes, before) {
		t.Errorf("the nodes were changed: %v", nodes)
	}
}
