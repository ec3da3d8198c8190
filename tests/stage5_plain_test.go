package tests

import (
	"math/big"
	"math/rand"
	"reflect"
	"slices"
	"strconv"
	"strings"
	"testing"

	"loop.example/g00007/impl"
)

// Here the document's chapter 5 is written down a second time, in another way: each term is added by AddTerm, and a
// definition has a bank of its own, from which all is added anew. (It knows no limit but those of numbers and of bits.)

type plainFault struct{ err, at int }

type plainNode struct {
	impl.Node
	kids []plainNode
}

type plainDef struct {
	params []string
	bank   impl.Bank
	id     int
}

type plainReader struct {
	bank     impl.Bank
	defs     map[string]plainDef
	labels   map[string]bool
	levels   int
	commands []impl.Command
	at       int
}

// plainEnv is what names stand for, the innermost last.
type plainEnv []struct {
	name string
	id   int
}

func plainTrees(nodes []impl.Node) []plainNode {
	var row []plainNode
	for len(nodes) > 0 {
		size := ends(nodes, 0)
		row = append(row, plainNode{nodes[0], plainTrees(nodes[1:size])})
		nodes = nodes[size:]
	}
	return row
}

func plainParse(text string) (res impl.LangRes) {
	tree := impl.ReadTree(text)
	if tree.Err != impl.TreeOk {
		return impl.LangRes{Err: impl.LangTree, Tree: tree.Err, At: tree.At}
	}
	defer func() {
		if f, ok := recover().(plainFault); ok {
			res = impl.LangRes{Err: f.err, At: f.at}
		}
	}()
	p := &plainReader{bank: impl.NewBank(), defs: map[string]plainDef{}, labels: map[string]bool{}}
	for _, n := range plainTrees(tree.Nodes) {
		p.at = n.At
		p.command(n)
	}
	return impl.LangRes{Script: impl.Script{Bank: p.bank, Commands: p.commands}}
}

func (p *plainReader) must(ok bool, err int, n plainNode) {
	if !ok {
		panic(plainFault{err, n.At})
	}
}

// shape writes a node as its kind: n name, i whole number of at most six digits, I a longer one, t text, k key, ( list, o other.
func (n plainNode) shape() string {
	switch {
	case n.Kind == impl.NodInt && len(n.Text) <= 6:
		return "i"
	default:
		return []string{"", "(", "n", "I", "o", "o", "t", "k"}[n.Kind]
	}
}

func (n plainNode) shapes() string {
	all := ""
	for _, k := range n.kids {
		all += k.shape()
	}
	return all
}

func (n plainNode) arePairs() bool {
	for _, k := range n.kids {
		if len(k.kids) != 2 || k.kids[0].Kind != impl.NodName {
			return false
		}
	}
	return true
}

func (n plainNode) num() int {
	v, _ := strconv.Atoi(n.Text)
	return v
}

// isCommand is the first bullet of the errors.
func (n plainNode) isCommand() bool {
	s := n.shapes()
	if n.Kind != impl.NodList || s == "" || s[0] != 'n' {
		return false
	}
	s = s[1:]
	k := n.kids
	switch k[0].Text {
	case "declare-sort":
		return s == "ni" && k[2].Text == "0"
	case "declare-fun":
		return len(s) == 3 && s[:2] == "n(" && len(k[2].kids) <= 5
	case "declare-const":
		return len(s) == 2 && s[0] == 'n'
	case "define-fun":
		return len(s) == 4 && s[:2] == "n(" && len(k[2].kids) <= 5 && k[2].arePairs()
	case "assert":
		if len(s) == 1 && len(k[1].kids) > 0 && k[1].kids[0].Kind == impl.NodName && k[1].kids[0].Text == "!" {
			m := k[1].kids
			return len(m) == 4 && m[2].Kind == impl.NodKey && m[2].Text == "named" && m[3].Kind == impl.NodName
		}
		return len(s) == 1
	case "push", "pop":
		return s == "i" && k[1].num() >= 1 && k[1].num() <= 50
	case "check-sat", "get-model", "get-unsat-core", "get-proof":
		return s == ""
	case "check-sat-assuming":
		return s == "("
	case "get-value":
		return s == "(" && len(k[1].kids) > 0
	case "echo":
		return s == "t"
	case "set-steps":
		return s == "i"
	}
	return false
}

func (p *plainReader) command(n plainNode) {
	p.must(n.isCommand(), impl.LangForm, n)
	k := n.kids[1:]
	c := impl.Command{}
	switch n.kids[0].Text {
	case "declare-sort":
		p.fresh(k[0])
		p.bank = impl.AddSort(p.bank, k[0].Text).Bank
	case "declare-fun", "declare-const":
		p.fresh(k[0])
		f := impl.Fun{Name: k[0].Text}
		if len(k) == 3 {
			for _, a := range k[1].kids {
				f.Args = append(f.Args, p.sort(a))
			}
		}
		f.Sort = p.sort(k[len(k)-1])
		r := impl.AddFun(p.bank, f)
		p.must(r.Err == impl.BankOk, impl.LangSort, n)
		p.bank = r.Bank
	case "define-fun":
		p.define(n)
	case "assert":
		c.Kind = impl.CmdAssert
		if len(k[0].kids) > 0 && k[0].kids[0].Text == "!" && k[0].kids[0].Kind == impl.NodName {
			c.Ids = []int{p.termOf(k[0].kids[1], nil, "Bool")}
			p.fresh(k[0].kids[3])
			c.Text = k[0].kids[3].Text
			p.labels[c.Text] = true
		} else {
			c.Ids = []int{p.termOf(k[0], nil, "Bool")}
		}
	case "push":
		c = impl.Command{Kind: impl.CmdPush, Num: k[0].num()}
		p.levels += c.Num
	case "pop":
		c = impl.Command{Kind: impl.CmdPop, Num: k[0].num()}
		p.levels -= c.Num
	case "check-sat":
		c.Kind = impl.CmdCheck
	case "check-sat-assuming":
		c.Kind = impl.CmdCheck
		for _, x := range k[0].kids {
			c.Ids = append(c.Ids, p.termOf(x, nil, "Bool"))
		}
	case "get-value":
		c.Kind = impl.CmdValue
		for _, x := range k[0].kids {
			c.Ids = append(c.Ids, p.term(x, nil))
		}
	case "get-model":
		c.Kind = impl.CmdModel
	case "get-unsat-core":
		c.Kind = impl.CmdCore
	case "get-proof":
		c.Kind = impl.CmdProof
	case "echo":
		c = impl.Command{Kind: impl.CmdEcho, Text: k[0].Text}
	case "set-steps":
		c = impl.Command{Kind: impl.CmdSteps, Num: k[0].num()}
	}
	p.must(p.levels >= 0 && p.levels <= 50, impl.LangMany, n)
	if c.Kind != 0 {
		p.commands = append(p.commands, c)
	}
}

func isPlainName(name string) bool {
	return impl.GoodBank(impl.Bank{Sorts: []string{name}}) && !strings.HasPrefix(name, ".")
}

func (p *plainReader) fun(name string) (impl.Fun, bool) {
	i := slices.IndexFunc(p.bank.Funs, func(f impl.Fun) bool { return f.Name == name })
	if i < 0 {
		return impl.Fun{}, false
	}
	return p.bank.Funs[i], true
}

func (p *plainReader) fresh(n plainNode) {
	_, isFun := p.fun(n.Text)
	_, isDef := p.defs[n.Text]
	p.must(isPlainName(n.Text) && !isFun && !isDef && !p.labels[n.Text] && !slices.Contains(p.bank.Sorts, n.Text), impl.LangName, n)
}

func (p *plainReader) sort(n plainNode) string {
	if n.Kind == impl.NodName {
		text := strings.TrimSpace(impl.WriteTree([]impl.Node{{Kind: impl.NodName, Text: n.Text}}))
		p.must(impl.ReadSort(p.bank.Sorts, text).Kind != impl.SortNone, impl.LangSort, n)
		return text
	}
	if n.shapes() == "nni" && n.kids[0].Text == "_" && n.kids[1].Text == "BitVec" {
		w := n.kids[2].num()
		p.must(w >= 1 && w <= 64, impl.LangSort, n)
		return "(_ BitVec " + n.kids[2].Text + ")"
	}
	p.must(len(n.kids) == 3 && n.shapes()[0] == 'n' && n.kids[0].Text == "Array", impl.LangForm, n)
	text := "(Array " + p.sort(n.kids[1]) + " " + p.sort(n.kids[2]) + ")"
	p.must(impl.ReadSort(p.bank.Sorts, text).Kind == impl.SortArray, impl.LangSort, n)
	return text
}

func (p *plainReader) define(n plainNode) {
	k := n.kids[1:]
	p.fresh(k[0])
	var d plainDef
	var env plainEnv
	d.bank = impl.Bank{Sorts: p.bank.Sorts, Funs: slices.Clone(p.bank.Funs), Terms: impl.NewBank().Terms}
	for i, pair := range k[1].kids {
		name := pair.kids[0]
		p.must(isPlainName(name.Text) && !env.hasFrom(0, name.Text), impl.LangName, name)
		sort := p.sort(pair.kids[1])
		f := impl.AddFun(d.bank, impl.Fun{Name: "." + strconv.Itoa(i), Args: []string{sort}, Sort: "Int"})
		p.must(f.Err == impl.BankOk, impl.LangSort, n)
		d.bank = impl.AddFun(d.bank, impl.Fun{Name: "." + strconv.Itoa(i), Sort: sort}).Bank
		r := impl.AddTerm(d.bank, constant("."+strconv.Itoa(i), sort))
		d.bank = r.Bank
		d.params = append(d.params, sort)
		env = append(env, struct {
			name string
			id   int
		}{name.Text, r.Id})
	}
	sort := p.sort(k[2])
	outer := p.bank
	p.bank = d.bank
	d.id = p.termOf(k[3], env, sort)
	d.bank, p.bank = p.bank, outer
	p.defs[k[0].Text] = d
}

func (env plainEnv) hasFrom(from int, name string) bool {
	for _, e := range env[from:] {
		if e.name == name {
			return true
		}
	}
	return false
}

// use adds all that the definition's bank has, the arguments in the places of the parameters.
func (p *plainReader) use(n plainNode, d plainDef, args []int) int {
	for i, a := range args {
		p.must(p.bank.Terms[a].Sort == d.params[i], impl.LangTerm, n)
	}
	to := make([]int, len(d.bank.Terms))
	for i, x := range d.bank.Terms {
		if x.Op == impl.OpApp && strings.HasPrefix(x.Text, ".") && i >= 2 && i < 2+len(args) {
			to[i] = args[i-2]
			continue
		}
		x.Kids = slices.Clone(x.Kids)
		for j := range x.Kids {
			x.Kids[j] = to[x.Kids[j]]
		}
		to[i] = p.add(n, x)
	}
	return to[d.id]
}

func (p *plainReader) add(n plainNode, x impl.Term) int {
	r := impl.AddTerm(p.bank, x)
	p.must(r.Err != impl.BankMany, impl.LangMany, plainNode{Node: impl.Node{At: p.at}})
	p.must(r.Err == impl.BankOk, impl.LangTerm, n)
	p.bank = r.Bank
	return r.Id
}

func (p *plainReader) termOf(n plainNode, env plainEnv, sort string) int {
	id := p.term(n, env)
	p.must(p.bank.Terms[id].Sort == sort, impl.LangTerm, n)
	return id
}

func (p *plainReader) term(n plainNode, env plainEnv) int {
	switch n.Kind {
	case impl.NodInt:
		return p.add(n, numeral("Int", n.Text))
	case impl.NodDec:
		q, _ := new(big.Rat).SetString(n.Text)
		return p.add(n, numeral("Real", ratText(q)))
	case impl.NodBits:
		return p.add(n, plainWord(n.Text))
	case impl.NodName:
		return p.name(n, env)
	}
	p.must(n.Kind == impl.NodList && len(n.kids) > 0, impl.LangForm, n)
	head := n.kids[0]
	if head.Kind == impl.NodList {
		return p.indexed(n, env)
	}
	p.must(head.Kind == impl.NodName, impl.LangForm, n)
	switch head.Text {
	case "let":
		return p.let(n, env)
	case "_":
		return p.bitsNumber(n)
	}
	if least, most := plainArity(head.Text); most > 0 {
		p.must(len(n.kids) > least && len(n.kids) <= most+1, impl.LangForm, n)
		return p.operation(n, p.all(n, env))
	}
	if d, ok := p.defs[head.Text]; ok {
		p.must(len(n.kids) == len(d.params)+1 && len(n.kids) > 1, impl.LangForm, n)
		return p.use(n, d, p.all(n, env))
	}
	f, ok := p.fun(head.Text)
	p.must(ok, impl.LangName, head)
	p.must(len(n.kids) == len(f.Args)+1 && len(n.kids) > 1, impl.LangForm, n)
	return p.add(n, impl.Term{Op: impl.OpApp, Sort: f.Sort, Text: f.Name, Kids: p.all(n, env)})
}

func plainWord(digits string) impl.Term {
	return impl.Term{Op: impl.OpBits, Sort: "(_ BitVec " + strconv.Itoa(len(digits)) + ")", Text: digits}
}

func (p *plainReader) name(n plainNode, env plainEnv) int {
	for i := len(env) - 1; i >= 0; i-- {
		if env[i].name == n.Text {
			return env[i].id
		}
	}
	if n.Text == "true" || n.Text == "false" {
		return p.add(n, term(slices.Index([]string{"", "true", "false"}, n.Text), "Bool"))
	}
	if d, ok := p.defs[n.Text]; ok {
		p.must(len(d.params) == 0, impl.LangName, n)
		return p.use(n, d, nil)
	}
	f, ok := p.fun(n.Text)
	p.must(ok && len(f.Args) == 0, impl.LangName, n)
	return p.add(n, constant(f.Name, f.Sort))
}

func (p *plainReader) all(n plainNode, env plainEnv) []int {
	var ids []int
	for _, k := range n.kids[1:] {
		ids = append(ids, p.term(k, env))
	}
	return ids
}

func plainArity(head string) (int, int) {
	switch head {
	case "not", "to_real", "bvnot", "bvneg":
		return 1, 1
	case "and", "or", "distinct", "+":
		return 2, 50
	case "ite", "store":
		return 3, 3
	case "-":
		return 1, 2
	case "xor", "=>", "=", "*", "/", "<=", "<", ">=", ">", "div", "mod", "select", "concat", "bvand", "bvor", "bvxor", "bvadd", "bvsub", "bvmul", "bvudiv", "bvurem", "bvshl", "bvlshr", "bvashr",
		"bvult", "bvule", "bvslt", "bvsle", "bvugt", "bvuge", "bvsgt", "bvsge", "bvcomp", "bvnand", "bvnor", "bvxnor":
		return 2, 2
	}
	return 0, 0
}

// The words of the operations from OpNot on that stand for themselves; "" where the kids decide.
const plainWords = "not:3 and:4 or:5 xor:6 =>:7 ite:8 =:9 distinct:10 +:13 <=:17 <:18 >=:19 >:20 div:21 mod:22 to_real:23 bvnot:25 bvneg:26 bvand:27 bvor:28 bvxor:29 bvadd:30 bvsub:31 bvmul:32 " +
	"bvudiv:33 bvurem:34 bvshl:35 bvlshr:36 bvashr:37 bvult:38 bvule:39 bvslt:40 bvsle:41 concat:42 select:46 store:47"

func plainOp(word string) int {
	for _, pair := range strings.Fields(plainWords) {
		if at := strings.LastIndex(pair, ":"); pair[:at] == word {
			op, _ := strconv.Atoi(pair[at+1:])
			return op
		}
	}
	return 0
}

func (p *plainReader) operation(n plainNode, k []int) int {
	sort := func(i int) string { return p.bank.Terms[k[i]].Sort }
	isNum := func(i int) bool { return p.bank.Terms[k[i]].Op == impl.OpNum }
	switch head := n.kids[0].Text; head {
	case "-":
		kind, text := n.kids[1].Kind, p.bank.Terms[k[0]].Text
		switch {
		case len(k) == 2:
			return p.add(n, term(impl.OpSub, sort(0), k...))
		case (kind == impl.NodInt || kind == impl.NodDec) && text != "0":
			return p.add(n, numeral(sort(0), "-"+text))
		}
		return p.add(n, term(impl.OpNeg, sort(0), k...))
	case "*":
		if !isNum(0) && isNum(1) {
			k[0], k[1] = k[1], k[0]
		}
		return p.add(n, term(impl.OpMul, sort(0), k...))
	case "/":
		p.must(sort(0) == "Real" && sort(1) == "Real" && isNum(1) && p.bank.Terms[k[1]].Text != "0", impl.LangTerm, n)
		if isNum(0) {
			return p.add(n, numeral("Real", impl.RatDiv(p.bank.Terms[k[0]].Text, p.bank.Terms[k[1]].Text)))
		}
		by := p.add(n, numeral("Real", impl.RatDiv("1", p.bank.Terms[k[1]].Text)))
		return p.add(n, term(impl.OpMul, "Real", by, k[0]))
	case "bvugt", "bvuge", "bvsgt", "bvsge":
		op := map[string]int{"bvugt": 38, "bvuge": 39, "bvsgt": 40, "bvsge": 41}[head]
		return p.add(n, term(op, "Bool", k[1], k[0]))
	case "bvnand", "bvnor", "bvxnor":
		op := map[string]int{"bvnand": 27, "bvnor": 28, "bvxnor": 29}[head]
		return p.add(n, term(impl.OpBvNot, sort(0), p.add(n, term(op, sort(0), k...))))
	case "bvcomp":
		eq := p.add(n, term(impl.OpEq, "Bool", k...))
		one := p.add(n, plainWord("1"))
		zero := p.add(n, plainWord("0"))
		return p.add(n, term(impl.OpIte, "(_ BitVec 1)", eq, one, zero))
	default:
		return p.plain(n, plainOp(head), k)
	}
}

// plain tries the sorts that the term may have: at most one is right.
func (p *plainReader) plain(n plainNode, op int, k []int) int {
	sorts := []string{"Bool", "Int", "Real"}
	for w := range 64 {
		sorts = append(sorts, "(_ BitVec "+strconv.Itoa(w+1)+")")
	}
	for _, i := range k {
		sort := p.bank.Terms[i].Sort
		sorts = append(sorts, sort, impl.ReadSort(p.bank.Sorts, sort).Elem)
	}
	for _, sort := range sorts {
		if isRightTerm(p.bank, term(op, sort, k...)) {
			return p.add(n, term(op, sort, k...))
		}
	}
	p.must(false, impl.LangTerm, n)
	return 0
}

func (p *plainReader) let(n plainNode, env plainEnv) int {
	p.must(len(n.kids) == 3 && len(n.kids[1].kids) > 0 && n.kids[1].arePairs(), impl.LangForm, n)
	inner := slices.Clone(env)
	for _, pair := range n.kids[1].kids {
		name := pair.kids[0]
		p.must(isPlainName(name.Text) && !inner.hasFrom(len(env), name.Text), impl.LangName, name)
		inner = append(inner, struct {
			name string
			id   int
		}{name.Text, p.term(pair.kids[1], env)})
	}
	return p.term(n.kids[2], inner)
}

func (p *plainReader) bitsNumber(n plainNode) int {
	p.must(len(n.kids) == 3 && n.kids[1].Kind == impl.NodName && n.kids[2].Kind == impl.NodInt, impl.LangForm, n)
	digits, ok := strings.CutPrefix(n.kids[1].Text, "bv")
	p.must(ok && impl.ReadTree(digits).Err == impl.TreeOk && digits != "" && strings.Trim(digits, "0123456789") == "", impl.LangForm, n)
	p.must(len(n.kids[2].Text) <= 2, impl.LangTerm, n)
	w := n.kids[2].num()
	v, _ := new(big.Int).SetString(digits, 10)
	p.must(w >= 1 && w <= 64 && v.BitLen() <= w, impl.LangTerm, n)
	text := v.Text(2)
	return p.add(n, plainWord(strings.Repeat("0", w-len(text))+text))
}

func (p *plainReader) indexed(n plainNode, env plainEnv) int {
	h := n.kids[0].kids
	s := n.kids[0].shapes()
	p.must(len(n.kids) == 2 && len(h) > 2 && s[:2] == "nn" && h[0].Text == "_", impl.LangForm, n)
	word := h[1].Text
	isOne := slices.Contains([]string{"zero_extend", "sign_extend", "rotate_left", "rotate_right", "repeat"}, word)
	p.must(isOne && s == "nni" || word == "extract" && s == "nnii", impl.LangForm, n)
	kid := p.term(n.kids[1], env)
	sort := func(w int) string { return "(_ BitVec " + strconv.Itoa(w) + ")" }
	w := wordWidth(p.bank.Terms[kid].Sort)
	v := h[2].num()
	cut := func(a, b int) int {
		return p.add(n, impl.Term{Op: impl.OpExtract, Sort: sort(a - b + 1), A: a, B: b, Kids: []int{kid}})
	}
	switch word {
	case "extract":
		return cut(v, h[3].num())
	case "zero_extend":
		return p.add(n, impl.Term{Op: impl.OpZext, Sort: sort(w + v), A: v, Kids: []int{kid}})
	case "sign_extend":
		return p.add(n, impl.Term{Op: impl.OpSext, Sort: sort(w + v), A: v, Kids: []int{kid}})
	case "repeat":
		p.must(v >= 1 && v*w <= 64 && (v == 1 || w > 0), impl.LangTerm, n)
		id := kid
		for i := 2; i <= v; i++ {
			id = p.add(n, term(impl.OpConcat, sort(i*w), kid, id))
		}
		return id
	}
	p.must(v < w, impl.LangTerm, n)
	if v == 0 {
		return kid
	}
	if word == "rotate_right" {
		v = w - v
	}
	first := cut(w-v-1, 0)
	second := cut(w-1, w-v)
	return p.add(n, term(impl.OpConcat, sort(w), first, second))
}

// copiedScript has memory of its own, and nil for each empty list.
func copiedScript(s impl.Script) impl.Script {
	c := impl.Script{Bank: copied(s.Bank)}
	for _, k := range s.Commands {
		k.Ids = append([]int(nil), k.Ids...)
		c.Commands = append(c.Commands, k)
	}
	return c
}

func sameScript(a, b impl.Script) bool {
	return reflect.DeepEqual(copiedScript(a), copiedScript(b))
}

// parsed reads a text and looks at all that holds whatever the text is.
func parsed(t *testing.T, text string) impl.LangRes {
	t.Helper()
	r := impl.ParseScript(text)
	if r.Err != impl.LangOk && !sameScript(r.Script, impl.Script{}) {
		t.Fatalf("%s: Err %d with a script", short(text), r.Err)
	}
	if r.Err == impl.LangOk && (r.At != 0 || r.Tree != 0 || !impl.GoodScript(r.Script)) {
		t.Fatalf("%s: read, At %d, Tree %d, and no good script", short(text), r.At, r.Tree)
	}
	if (r.Tree != 0) != (r.Err == impl.LangTree) {
		t.Fatalf("%s: Err %d, Tree %d", short(text), r.Err, r.Tree)
	}
	return r
}

func checkAsPlain(t *testing.T, text string) impl.LangRes {
	t.Helper()
	want := plainParse(text)
	got := parsed(t, text)
	if got.Err != want.Err || got.Tree != want.Tree || got.At != want.At {
		t.Fatalf("%s\nErr %d, Tree %d, At %d, want %d, %d, %d", text, got.Err, got.Tree, got.At, want.Err, want.Tree, want.At)
	}
	if !sameScript(got.Script, want.Script) {
		t.Fatalf("%s\n%+v\nwant\n%+v", text, got.Script, want.Script)
	}
	return got
}

// A scriptDraw writes scripts; wrong is how many in a thousand places are not as they should be.
type scriptDraw struct {
	r     *rand.Rand
	wrong int
	names map[string][]string // by sort, of constants and of definitions without parameters
	calls map[string][]drawnCall
}

type drawnCall struct {
	name string
	args []string
}

var drawnSorts = []string{"Bool", "Int", "Real", "U", "|a b|", "(_ BitVec 1)", "(_ BitVec 3)", "(_ BitVec 4)", "(Array Int U)", "(Array (_ BitVec 3) (_ BitVec 1))"}

var drawnArgs = drawnSorts[1:8]

func (d *scriptDraw) pick(list ...string) string {
	return list[d.r.Intn(len(list))]
}

func (d *scriptDraw) script(commands int) string {
	d.names, d.calls = map[string][]string{}, map[string][]drawnCall{}
	var b strings.Builder
	b.WriteString("(declare-sort U 0)(declare-sort |a b| 0)")
	for _, sort := range drawnSorts {
		name := "c" + strconv.Itoa(len(d.names))
		d.names[sort] = []string{name}
		b.WriteString("(declare-const " + name + " " + sort + ")")
	}
	for i := range commands {
		b.WriteString(d.command(strconv.Itoa(i)))
		b.WriteString(d.pick("", "", " ", "\n", " ; (note\n"))
	}
	return b.String()
}

func (d *scriptDraw) command(n string) string {
	switch d.r.Intn(12) {
	case 0:
		sort := d.pick(drawnArgs...)
		args := d.args(1 + d.r.Intn(3))
		d.calls[sort] = append(d.calls[sort], drawnCall{"f" + n, args})
		return "(declare-fun f" + n + " (" + strings.Join(args, " ") + ") " + sort + ")"
	case 1, 2, 3:
		return d.definition("d" + n)
	case 4:
		return "(get-value (" + d.term(d.pick(drawnSorts...), 3, nil) + " " + d.term(d.pick(drawnSorts...), 2, nil) + "))"
	case 5:
		return "(check-sat-assuming (" + d.term("Bool", 2, nil) + " " + d.term("Bool", 3, nil) + "))"
	case 6:
		return d.pick("(push 1)", "(check-sat)", "(get-model)", "(get-unsat-core)", "(get-proof)", "(echo \"a\"\"b\")", "(set-steps 5)", "(push 2)(pop 1)", "(pop 1)")
	case 7:
		return "(assert (! " + d.term("Bool", 6, nil) + " :named l" + n + "))"
	}
	return "(assert " + d.term("Bool", 6, nil) + ")"
}

func (d *scriptDraw) args(n int) []string {
	var args []string
	for range n {
		args = append(args, d.pick(drawnArgs...))
	}
	return args
}

// definition gives parameters names that others have, too.
func (d *scriptDraw) definition(name string) string {
	sort := d.pick(drawnSorts...)
	args := d.args(d.r.Intn(4))
	env := map[string][]string{}
	row := ""
	for i, a := range args {
		param := []string{"x", "y", d.pick("z", "c1", name, "c9", "d1")}[i]
		row += "(" + param + " " + a + ")"
		env = d.bound(env, param, a)
	}
	text := "(define-fun " + name + " (" + row + ") " + sort + " " + d.term(sort, 5, env) + ")"
	if len(args) == 0 {
		d.names[sort] = append(d.names[sort], name)
	} else {
		d.calls[sort] = append(d.calls[sort], drawnCall{name, args})
	}
	return text
}

// bound is env with a name more, which hides others.
func (d *scriptDraw) bound(env map[string][]string, name, sort string) map[string][]string {
	inner := map[string][]string{}
	for s, names := range env {
		inner[s] = slices.DeleteFunc(slices.Clone(names), func(n string) bool { return n == name || n == "!"+name })
	}
	for s, names := range d.names {
		if slices.Contains(names, name) {
			inner[s] = append(inner[s], "!"+name) // hidden
		}
	}
	inner[sort] = append(inner[sort], name)
	return inner
}

func (d *scriptDraw) leaf(sort string, env map[string][]string) string {
	var names []string
	for _, n := range d.names[sort] {
		if !slices.Contains(env[sort], "!"+n) {
			names = append(names, n)
		}
	}
	for _, n := range env[sort] {
		if n[0] != '!' {
			names = append(names, n, n, n)
		}
	}
	w := wordWidth(sort)
	switch {
	case sort == "Bool":
		names = append(names, "true", "false")
	case sort == "Int":
		names = append(names, "0", "7", "12", "(- 3)", "(- 0)")
	case sort == "Real":
		names = append(names, "0.0", "1.50", "12.125", "(- 0.25)", "(/ 1.0 3.0)", "(/ (- 5.0) 3.0)")
	case w > 0:
		names = append(names, "#b"+strings.Repeat("10", w)[:w], "(_ bv1 "+strconv.Itoa(w)+")")
		if w == 4 {
			names = append(names, "#xA")
		}
	}
	if len(names) == 0 {
		return d.names[sort][0]
	}
	return d.pick(names...)
}

func (d *scriptDraw) term(sort string, deep int, env map[string][]string) string {
	if d.r.Intn(1000) < d.wrong {
		return d.pick("zoo", "\"t\"", ":k", "()", "(zoo 1)", "(not)", "(and true)", "(let () true)", "(let ((x 1) (x 2)) true)", "(let ((and 1)) true)", "(_ bv9 3)", "(_ bv1 65)", "(_ zoo 3)", "((_ extract 1 2) #b101)",
			"((_ extract 1) #b1)", "((_ rotate_left 9) #b1)", "((_ repeat 0) #b1)", "(* c1 c1)", "(/ 1.0 0.0)", "(/ 1 2)", "(bvadd #b1 #b10)", "(+ 1 1.0)", "and", "f1", "d1", "(c1 1)", "(d1)", "(d1 1)", "(1 2)", "1", "1.0", "#b1",
			strings.Repeat("9", 31), "(select c1 c1)", "(div 1 0)", "((_ zero_extend 64) #b1)", "((_ zero_extend 0) #b1)", "(concat 1 #b1)", "(ite 1 2 3)", "(bvcomp 1 2)", "(bvcomp 1 true)", "((_ repeat 1) 5)", "(true)", "(let ((c1 1)) (c1 2))")
	}
	if deep == 0 || d.r.Intn(8) == 0 {
		return d.leaf(sort, env)
	}
	if d.r.Intn(8) == 0 {
		return d.let(sort, deep, env)
	}
	if calls := d.calls[sort]; len(calls) > 0 && d.r.Intn(3) == 0 {
		c := calls[d.r.Intn(len(calls))]
		return d.filled("("+c.name+" {"+strings.Join(c.args, "} {")+"})", deep, env)
	}
	if d.r.Intn(8) == 0 {
		return d.filled("(ite {Bool} {"+sort+"} {"+sort+"})", deep, env)
	}
	return d.filled(d.operation(sort), deep, env)
}

func (d *scriptDraw) let(sort string, deep int, env map[string][]string) string {
	row := ""
	inner := env
	for i := range 1 + d.r.Intn(2) {
		name, s := []string{"x", "v"}[i], d.pick(drawnSorts...)
		if i == 0 {
			name = d.pick("x", "y", "c1", "f1", "d1", "U")
		}
		row += "(" + name + " " + d.term(s, d.r.Intn(deep), env) + ")"
		inner = d.bound(inner, name, s)
	}
	return "(let (" + row + ") " + d.term(sort, deep-1, inner) + ")"
}

// filled puts terms in for the sorts in braces.
func (d *scriptDraw) filled(form string, deep int, env map[string][]string) string {
	var b strings.Builder
	for {
		ahead, rest, found := strings.Cut(form, "{")
		b.WriteString(ahead)
		if !found {
			return b.String()
		}
		sort, behind, _ := strings.Cut(rest, "}")
		b.WriteString(d.term(sort, d.r.Intn(deep), env))
		form = behind
	}
}

// operation gives a form in which X stands for any sort, N for a number's, W for one of words, S for the term's own.
func (d *scriptDraw) operation(sort string) string {
	var forms []string
	w := wordWidth(sort)
	switch {
	case sort == "Bool":
		forms = []string{"(not {S})", "(and {S} {S} {S})", "(or {S} {S})", "(xor {S} {S})", "(=> {S} {S})", "(= {X} {X})", "(distinct {X} {X} {X})", "(<= {N} {N})", "(< {N} {N})", "(>= {N} {N})", "(> {N} {N})",
			"(bvult {W} {W})", "(bvule {W} {W})", "(bvslt {W} {W})", "(bvsle {W} {W})", "(bvugt {W} {W})", "(bvuge {W} {W})", "(bvsgt {W} {W})", "(bvsge {W} {W})"}
	case sort == "Int":
		forms = []string{"(+ {S} {S} {S})", "(- {S} {S})", "(- {S})", "(* 2 {S})", "(* {S} (- 3))", "(div {S} 5)", "(div {S} (- 5))", "(mod {S} 4)"}
	case sort == "Real":
		forms = []string{"(+ {S} {S})", "(- {S} {S})", "(- {S})", "(* {S} 2.5)", "(/ {S} 4.0)", "(/ {S} (- 1.5))", "(to_real {Int})"}
	case sort == "U":
		forms = []string{"(select {(Array Int U)} {Int})"}
	case sort == "(Array Int U)":
		forms = []string{"(store {S} {Int} {U})"}
	case sort == "(Array (_ BitVec 3) (_ BitVec 1))":
		forms = []string{"(store {S} {(_ BitVec 3)} {(_ BitVec 1)})"}
	case w == 1:
		forms = []string{"(bvcomp {W} {W})", "((_ extract 2 2) {(_ BitVec 4)})", "(select {(Array (_ BitVec 3) (_ BitVec 1))} {(_ BitVec 3)})"}
	case w == 3:
		forms = []string{"((_ extract 3 1) {(_ BitVec 4)})"}
	case w == 4:
		forms = []string{"((_ zero_extend 1) {(_ BitVec 3)})", "((_ sign_extend 1) {(_ BitVec 3)})", "((_ sign_extend 3) {(_ BitVec 1)})", "(concat {(_ BitVec 3)} {(_ BitVec 1)})"}
	default:
		return d.names[sort][0]
	}
	if w > 0 {
		n := strconv.Itoa(d.r.Intn(w))
		forms = append(forms, "(bvnot {S})", "(bvneg {S})", "((_ rotate_left "+n+") {S})", "((_ rotate_right "+n+") {S})", "((_ repeat "+strconv.Itoa(w)+") {(_ BitVec 1)})")
		for _, word := range strings.Fields("bvand bvor bvxor bvadd bvsub bvmul bvudiv bvurem bvshl bvlshr bvashr bvnand bvnor bvxnor") {
			forms = append(forms, "("+word+" {S} {S})")
		}
	}
	in := strings.NewReplacer("{X}", "{"+d.pick(drawnSorts...)+"}", "{N}", "{"+d.pick("Int", "Real")+"}", "{W}", "{"+d.pick(drawnSorts[5:8]...)+"}", "{S}", "{"+sort+"}")
	return in.Replace(d.pick(forms...))
}

// Drawn scripts, right and wrong ones.
func TestStage5Drawn(t *testing.T) {

	r := rand.New(rand.NewSource(51))
	count := map[int]int{}
	for i := range 1500 {
		d := &scriptDraw{r: r, wrong: []int{0, 3, 20}[i%3]}
		count[checkAsPlain(t, d.script(1+r.Intn(12))).Err]++
	}
	for err := impl.LangOk; err <= impl.LangMany; err++ {
		if count[err] < 5 && err != impl.LangTree && err != impl.LangSort {
			t.Errorf("Err %d came %d times", err, count[err])
		}
	}
}

// Drawn scripts of which some tokens are taken away, doubled, or changed.
func TestStage5Changed(t *testing.T) {
	r := rand.New(rand.NewSource(52))
	count := map[int]int{}
	others := []string{"(", ")", "x", "c1", "c2", "U", "1", "0", "1.0", "#b1", "1000000", "65", "and", "not", "let", "_", "!", ":named", "\"t\"", "Int", "Bool", "(_ BitVec 3)", "(_ BitVec 65)", "(Array Int Int)", "(Array Int Bool)", "(Array U)", "true", ".x", "|a b|", "||", "define-fun", "declare-const", "assert"}
	for range 3000 {
		d := &scriptDraw{r: r}
		tokens := plainTokens(d.script(1 + r.Intn(6)))
		for range 1 + r.Intn(2) {
			i := r.Intn(len(tokens))
			switch r.Intn(5) {
			case 0:
				tokens = slices.Delete(tokens, i, i+1)
			case 1:
				tokens = slices.Insert(tokens, i, tokens[i])
			case 2:
				tokens[i] = others[r.Intn(len(others))]
			case 3:
				tokens = slices.Insert(tokens, i, others[r.Intn(len(others))])
			case 4:
				j := r.Intn(len(tokens))
				tokens[i], tokens[j] = tokens[j], tokens[i]
			}
		}
		count[checkAsPlain(t, strings.Join(tokens, " ")).Err]++
	}
	for err := impl.LangOk; err <= impl.LangMany; err++ {
		if count[err] < 5 {
			t.Errorf("Err %d came %d times", err, count[err])
		}
	}
}

func plainTokens(text string) []string {
	var tokens []string
	for text != "" {
		if text[0] == '(' || text[0] == ')' {
			tokens = append(tokens, text[:1])
			text = text[1:]
			continue
		}
		if strings.IndexByte(" \n", text[0]) >= 0 {
			text = text[1:]
			continue
		}
		if text[0] == ';' {
			text = text[strings.IndexByte(text, '\n'):]
			continue
		}
		_, _, size := plainToken(text)
		tokens = append(tokens, text[:size])
		text = text[size:]
	}
	return tokens
}
