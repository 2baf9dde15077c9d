package tests

import (
	"math/rand"
	"slices"
	"strings"
	"testing"

	"loop.example/kilnmill/impl"
)

// maker makes valid trees by chance.
type maker struct {
	*rand.Rand
}

var madeNames = []string{"a", "b", "main", "fn_", "u8x", "z__9", "nnnnnnnnnnnnnnnnnnnnnnnnnnnnnn"}

func (m maker) name() string { return madeNames[m.Intn(len(madeNames))] }

func (m maker) bytes() string {
	b := make([]byte, m.Intn(6))
	for i := range b {
		b[i] = byte(m.Intn(256))
	}
	return string(b)
}

func (m maker) value(depth int) twig {
	kinds := 9
	if depth <= 0 {
		kinds = 4
	}
	switch m.Intn(kinds) + 1 {
	case impl.NodeInt:
		c := greatestNumbers[m.Intn(len(greatestNumbers))]
		return xInt(c.typ, []int64{0, 1, 7, 100, c.n}[m.Intn(5)])
	case impl.NodeText:
		return xText(m.bytes())
	case impl.NodeBool:
		return xBool(int64(m.Intn(2)))
	case impl.NodeName:
		return xName(m.name())
	case impl.NodeUn:
		return xUn(1+m.Intn(3), m.value(depth-1))
	case impl.NodeBin:
		return xBin(1+m.Intn(18), m.value(depth-1), m.value(depth-1))
	case impl.NodeCall:
		return xCall(m.name(), m.values(m.Intn(4), depth-1)...)
	case impl.NodeBuilt:
		op := 1 + m.Intn(12)
		return xBuilt(op, m.values(builtKids[op], depth-1)...)
	}
	return xConv(impl.TypeU8+m.Intn(8), m.value(depth-1))
}

func (m maker) values(n, depth int) []twig {
	var list []twig
	for range n {
		list = append(list, m.value(depth))
	}
	return list
}

func (m maker) statement(depth int) twig {
	kind := impl.NodeLet + m.Intn(11)
	if depth <= 0 && (kind == impl.NodeIf || kind == impl.NodeWhile) {
		kind = impl.NodeReturn
	}
	switch kind {
	case impl.NodeLet:
		return xLet(m.name(), m.value(depth))
	case impl.NodeSet:
		return xSet(m.name(), m.value(depth))
	case impl.NodeIf:
		return m.ifElse(depth)
	case impl.NodeWhile:
		return xWhile(m.value(depth), m.block(depth-1))
	case impl.NodeBreak:
		return xBreak()
	case impl.NodeContinue:
		return xContinue()
	case impl.NodeReturn:
		return xReturn(m.values(m.Intn(2), depth)...)
	case impl.NodeFail:
		return xFail(m.value(depth))
	case impl.NodeWrite:
		return xWrite(m.value(depth), m.value(depth))
	case impl.NodeSay:
		return xSay(m.value(depth))
	}
	return xDo(xCall(m.name(), m.values(m.Intn(3), depth)...))
}

func (m maker) ifElse(depth int) twig {
	kids := []twig{m.value(depth), m.block(depth - 1)}
	switch m.Intn(3) {
	case 0:
		kids = append(kids, m.block(depth-1))
	case 1:
		kids = append(kids, m.ifElse(depth-1))
	}
	return xIf(kids...)
}

func (m maker) block(depth int) twig {
	var kids []twig
	for range m.Intn(4) {
		kids = append(kids, m.statement(depth))
	}
	return xBlock(kids...)
}

func (m maker) program(depth int) twig {
	var fns []twig
	for range 1 + m.Intn(2) {
		var kids []twig
		for range m.Intn(3) {
			kids = append(kids, xParam(m.name(), 1+m.Intn(10)))
		}
		fns = append(fns, xFn(m.name(), m.Intn(11), append(kids, m.block(depth))...))
	}
	return xProgram(fns...)
}

// pieces writes a tree as the document's table does, in tokens, with brackets where the ranks need them and, by chance, elsewhere.
func (m maker) pieces(w twig) []string {
	n := w.node
	kid := func(i int) []string { return m.pieces(w.kids[i]) }
	e := func(i int) []string { return m.bracketed(w.kids[i], false) }
	switch n.Kind {
	case impl.NodeInt:
		return []string{written(number(n.Type, n.N))}
	case impl.NodeText:
		return []string{quoted(n.Text)}
	case impl.NodeBool:
		return []string{[]string{"false", "true"}[n.N]}
	case impl.NodeName:
		return []string{n.Text}
	case impl.NodeUn:
		return slices.Concat([]string{unMarks[n.Op]}, m.bracketed(w.kids[0], w.kids[0].node.Kind == impl.NodeBin))
	case impl.NodeBin:
		rank := binRanks[n.Op]
		left, right := rankOf(w.kids[0]), rankOf(w.kids[1])
		return slices.Concat(m.bracketed(w.kids[0], left < rank || left == rank && rank == 3), []string{binMarks[n.Op]}, m.bracketed(w.kids[1], right <= rank))
	case impl.NodeCall:
		return slices.Concat([]string{n.Text, "("}, m.listed(w.kids), []string{")"})
	case impl.NodeBuilt:
		return slices.Concat([]string{builtWords[n.Op], "("}, m.listed(w.kids), []string{")"})
	case impl.NodeConv:
		return slices.Concat([]string{typeWords[n.Type], "("}, e(0), []string{")"})
	case impl.NodeLet:
		return slices.Concat([]string{"let", n.Text, "="}, e(0), []string{";"})
	case impl.NodeSet:
		return slices.Concat([]string{n.Text, "="}, e(0), []string{";"})
	case impl.NodeIf:
		out := slices.Concat([]string{"if"}, e(0), kid(1))
		if n.Kids == 3 {
			out = slices.Concat(out, []string{"else"}, kid(2))
		}
		return out
	case impl.NodeWhile:
		return slices.Concat([]string{"while"}, e(0), kid(1))
	case impl.NodeBreak:
		return []string{"break", ";"}
	case impl.NodeContinue:
		return []string{"continue", ";"}
	case impl.NodeReturn:
		return slices.Concat([]string{"return"}, m.listed(w.kids), []string{";"})
	case impl.NodeFail:
		return slices.Concat([]string{"fail"}, e(0), []string{";"})
	case impl.NodeWrite:
		return slices.Concat([]string{"write"}, m.listed(w.kids), []string{";"})
	case impl.NodeSay:
		return slices.Concat([]string{"say"}, e(0), []string{";"})
	case impl.NodeDo:
		return slices.Concat(kid(0), []string{";"})
	}
	return m.parts(w)
}

// parts writes what is no E and no statement.
func (m maker) parts(w twig) []string {
	n := w.node
	out := []string{}
	switch n.Kind {
	case impl.NodeParam:
		return []string{n.Text, typeWords[n.Type]}
	case impl.NodeBlock:
		out = append(out, "{")
		for _, k := range w.kids {
			out = append(out, m.pieces(k)...)
		}
		return append(out, "}")
	case impl.NodeFn:
		out = append(out, "fn", n.Text, "(")
		last := len(w.kids) - 1
		for i, k := range w.kids[:last] {
			if i > 0 {
				out = append(out, ",")
			}
			out = append(out, m.pieces(k)...)
		}
		out = append(out, ")")
		if n.Type != 0 {
			out = append(out, "->", typeWords[n.Type])
		}
		return append(out, m.pieces(w.kids[last])...)
	}
	for _, k := range w.kids {
		out = append(out, m.pieces(k)...)
	}
	return out
}

func rankOf(w twig) int {
	if w.node.Kind == impl.NodeBin {
		return binRanks[w.node.Op]
	}
	return 6
}

func (m maker) bracketed(w twig, need bool) []string {
	out := m.pieces(w)
	for need || m.Intn(8) == 0 {
		out = slices.Concat([]string{"("}, out, []string{")"})
		need = false
	}
	return out
}

func (m maker) listed(kids []twig) []string {
	var out []string
	for i, k := range kids {
		if i > 0 {
			out = append(out, ",")
		}
		out = append(out, m.bracketed(k, false)...)
	}
	return out
}

// loose puts gaps between tokens, none at all only beside brackets, commas and semicolons.
func (m maker) loose(pieces []string) string {
	var b strings.Builder
	before := "("
	for _, p := range pieces {
		if m.Intn(3) > 0 || !strings.Contains("(){},;", p) && !strings.Contains("(){},;", before) {
			b.WriteString([]string{" ", "\n", "  ", "# @\n"}[m.Intn(4)])
		}
		b.WriteString(p)
		before = p
	}
	return b.String()
}

// P2 and P3, for trees that are made by chance and written in many ways.
func TestParseOfPrint(t *testing.T) {
	m := maker{rand.New(rand.NewSource(11))}
	kinds := map[impl.Node]int{}
	printed := 0
	for range 6000 {
		made := m.program(1 + m.Intn(5))
		tree := treeOf(made)
		if !impl.ValidTree(tree) || !modelValid(tree) {
			t.Fatalf("not valid: %+v", tree)
		}
		for _, n := range tree.Nodes {
			kinds[impl.Node{Kind: n.Kind, Op: n.Op}]++
		}
		if src := m.loose(m.pieces(made)); len(src) <= impl.MaxSrc {
			got, f := impl.Parse(src)
			if f != (impl.Fault{}) || !same(got, tree) {
				t.Fatalf("%q: %+v %+v", src, got, f)
			}
			checkPrint(t, got)
		}
		if checkPrint(t, tree) {
			printed++
		}
	}
	if len(kinds) != 21+3+18+12 || printed < 5000 {
		t.Errorf("%d kinds, %d printed", len(kinds), printed)
	}
}

// checkPrint reads what Print writes; it is false where this is nothing.
func checkPrint(t *testing.T, tree impl.Tree) bool {
	t.Helper()
	s := impl.Print(tree)
	if s == "" {
		return false
	}
	got, f := impl.Parse(s)
	if f != (impl.Fault{}) || !same(got, tree) {
		t.Fatalf("%q: %+v", s, f)
	}
	if again := impl.Print(got); again != s {
		t.Fatalf("%q, then %q", s, again)
	}
	return true
}

// Trees that are bent by chance: ValidTree is held against the model, and Print gives nothing where it is false.
func TestValidByChance(t *testing.T) {
	m := maker{rand.New(rand.NewSource(12))}
	valid := 0
	const rounds = 30000
	for range rounds {
		tree := treeOf(m.program(1 + m.Intn(3)))
		for range 1 + m.Intn(2) {
			m.bend(&tree)
		}
		want := modelValid(tree)
		if got := impl.ValidTree(tree); got != want {
			t.Fatalf("%v, want %v: %+v", got, want, tree)
		}
		if want {
			valid++
			checkPrint(t, tree)
		} else if s := impl.Print(tree); s != "" {
			t.Fatalf("%q of %+v", s, tree)
		}
	}
	if valid < rounds/20 || valid > rounds/2 {
		t.Errorf("%d of %d are valid", valid, rounds)
	}
}

func (m maker) bend(tree *impl.Tree) {
	if len(tree.Nodes) == 0 {
		return
	}
	i := m.Intn(len(tree.Nodes))
	j := m.Intn(len(tree.Nodes))
	n := &tree.Nodes[i]
	switch m.Intn(9) {
	case 0:
		n.Kind = m.Intn(26)
	case 1:
		n.Op = m.Intn(20)
	case 2:
		n.Type = m.Intn(12)
	case 3:
		n.N = int64(m.Intn(400) - 2)
	case 4:
		n.Text = []string{"", "a", "fn", "x y", "nnnnnnnnnnnnnnnnnnnnnnnnnnnnnnn"}[m.Intn(5)]
	case 5:
		n.Kids += m.Intn(3) - 1
	case 6:
		tree.Nodes[i], tree.Nodes[j] = tree.Nodes[j], tree.Nodes[i]
	case 7:
		tree.Nodes = slices.Delete(tree.Nodes, i, i+1)
	case 8:
		tree.Nodes = slices.Insert(tree.Nodes, i, tree.Nodes[j])
	}
}

// The grammar once more, as rules; the words in capitals are kinds of tokens.
const grammar = `
program =
program = function program
function = fn NAME ( params ) result block
params =
params = parlist
parlist = NAME TYPE
parlist = NAME TYPE , parlist
result =
result = -> TYPE
block = { body }
body =
body = stat body
stat = let NAME = or ;
stat = NAME = or ;
stat = ifs
stat = while or block
stat = break ;
stat = continue ;
stat = return ;
stat = return or ;
stat = fail or ;
stat = write or , or ;
stat = say or ;
stat = call ;
ifs = if or block
ifs = if or block else block
ifs = if or block else ifs
or = and
or = or || and
and = cmp
and = and && cmp
cmp = sum
cmp = sum CMP sum
sum = prod
sum = sum SUM prod
prod = un
prod = prod PROD un
un = one
un = UN un
one = INT
one = TEXT
one = true
one = false
one = NAME
one = call
one = W0 ( )
one = W1 ( or )
one = W2 ( or , or )
one = W3 ( or , or , or )
one = INTTYPE ( or )
one = ( or )
call = NAME ( args )
args =
args = arglist
arglist = or
arglist = or , arglist`

// groups: which tokens a word in capitals stands for.
var groups = map[string]string{
	"TYPE": "bool text u8 u16 u32 u64 i8 i16 i32 i64", "INTTYPE": "u8 u16 u32 u64 i8 i16 i32 i64",
	"CMP": "== != < <= > >=", "SUM": "+ - | ^", "PROD": "* / % & << >>", "UN": "- ! ~",
	"W0": "arg", "W1": "read has list len chr dec num", "W2": "tool at find", "W3": "cut",
}

type rule struct {
	left  string
	right []string
}

// item is a rule of which a part has been read, from a token on.
type item struct {
	rule, done, from int
}

type reader struct {
	rules  []rule
	empty  map[string]bool
	byLeft map[string][]int
}

func newReader() reader {
	r := reader{empty: map[string]bool{}, byLeft: map[string][]int{}}
	for _, line := range strings.Split(strings.TrimSpace(grammar), "\n") {
		f := strings.Fields(line)
		r.byLeft[f[0]] = append(r.byLeft[f[0]], len(r.rules))
		r.rules = append(r.rules, rule{f[0], f[2:]})
		if len(f) == 2 {
			r.empty[f[0]] = true
		}
	}
	return r
}

func fits(symbol string, k impl.Token) bool {
	switch symbol {
	case "NAME":
		return k.Kind == impl.TokName
	case "INT":
		return k.Kind == impl.TokInt
	case "TEXT":
		return k.Kind == impl.TokText
	}
	if k.Kind != impl.TokWord && k.Kind != impl.TokMark {
		return false
	}
	if g, ok := groups[symbol]; ok {
		return slices.Contains(strings.Fields(g), k.Text)
	}
	return symbol == k.Text
}

// closed puts to the items of a token all that may begin there and all that ends there.
func (r reader) closed(sets [][]item, first []item) []item {
	at := len(sets)
	set := first
	seen := map[item]bool{}
	for _, x := range set {
		seen[x] = true
	}
	put := func(x item) {
		if !seen[x] {
			seen[x] = true
			set = append(set, x)
		}
	}
	for i := 0; i < len(set); i++ {
		x := set[i]
		ru := r.rules[x.rule]
		if x.done == len(ru.right) {
			from := set
			if x.from < at {
				from = sets[x.from]
			}
			for _, y := range from {
				if u := r.rules[y.rule]; y.done < len(u.right) && u.right[y.done] == ru.left {
					put(item{y.rule, y.done + 1, y.from})
				}
			}
			continue
		}
		next := ru.right[x.done]
		for _, j := range r.byLeft[next] {
			put(item{j, 0, at})
		}
		if r.empty[next] {
			put(item{x.rule, x.done + 1, x.from})
		}
	}
	return set
}

// wrongAt is the number of the first token at which nothing goes on, that of all tokens if the text ends too early, and -1 if it is written so.
func (r reader) wrongAt(toks []impl.Token) int {
	var start []item
	for _, j := range r.byLeft["program"] {
		start = append(start, item{j, 0, 0})
	}
	var sets [][]item
	sets = append(sets, r.closed(sets, start))
	for i, k := range toks {
		var first []item
		for _, x := range sets[i] {
			ru := r.rules[x.rule]
			if x.done == len(ru.right) {
				continue
			}
			symbol := ru.right[x.done]
			if _, is := r.byLeft[symbol]; is {
				continue
			}
			if fits(symbol, k) {
				first = append(first, item{x.rule, x.done + 1, x.from})
			}
		}
		if len(first) == 0 {
			return i
		}
		sets = append(sets, r.closed(sets, first))
	}
	for _, x := range sets[len(toks)] {
		if ru := r.rules[x.rule]; ru.left == "program" && x.done == len(ru.right) && x.from == 0 {
			return -1
		}
	}
	return len(toks)
}

// The token at which nothing goes on, for programs that are bent by chance, by rules that do not know how the parser is built.
func TestParseByRules(t *testing.T) {
	m := maker{rand.New(rand.NewSource(13))}
	r := newReader()
	any := append(append(strings.Fields(allWords), strings.Fields(allMarks)...), "a", "f", "1", "2u8", `""`, `"("`, `"fn"`)
	tally := map[int]int{}
	for range 5000 {
		pieces := m.pieces(m.program(1 + m.Intn(3)))
		if len(pieces) > 70 {
			continue
		}
		for range m.Intn(3) {
			i := m.Intn(len(pieces) + 1)
			switch m.Intn(4) {
			case 0:
				pieces = slices.Insert(pieces, i, any[m.Intn(len(any))])
			case 1:
				pieces = slices.Delete(pieces, i, min(i+1, len(pieces)))
			case 2:
				pieces = pieces[:i]
			case 3:
				if i < len(pieces) {
					pieces[i] = any[m.Intn(len(any))]
				}
			}
		}
		src := m.loose(pieces)
		tally[checkRules(t, r, src)]++
	}
	for _, code := range []int{0, 6, 7} {
		if tally[code] < 20 {
			t.Errorf("code %d was told %d times", code, tally[code])
		}
	}
}

func checkRules(t *testing.T, r reader, src string) int {
	t.Helper()
	toks, f := impl.Scan(src)
	if f != (impl.Fault{}) {
		t.Fatalf("%q: %+v", src, f)
	}
	want := impl.Fault{}
	switch i := r.wrongAt(toks); {
	case i == -1 && len(toks) == 0:
		want.Code = 7
	case i == len(toks):
		want = impl.Fault{Code: 6, At: len(src)}
	case i >= 0:
		want = impl.Fault{Code: 6, At: toks[i].At}
	}
	got, f := impl.Parse(src)
	if f != want {
		t.Fatalf("%q: %+v, want %+v", src, f, want)
	}
	if f.Code != 0 && got.Nodes != nil {
		t.Fatalf("%q: nodes beside a fault", src)
	}
	if f.Code == 0 {
		if !impl.ValidTree(got) || !modelValid(got) {
			t.Fatalf("%q: not valid", src)
		}
		checkPrint(t, got)
	}
	return f.Code
}

// Behind every beginning of a program each token is tried.
func TestParseEveryToken(t *testing.T) {
	r := newReader()
	src := `fn f ( a text , b u8 ) -> bool { let x = - a + cut ( b , 1 , "" ) == u8 ( ( true ) ) ; x = arg ( ) ; f ( a , b ) ; if a < b { break ; } else if a { return ; } else { continue ; } while a { return 1 ; } fail a ; write a , b ; say f ( ) ; } fn g ( ) { }`
	pieces := strings.Fields(src)
	any := append(append(strings.Fields(allWords), strings.Fields(allMarks)...), "a", "1", `"x"`, `"("`, `")"`)
	checkRules(t, r, src)
	for i := range pieces {
		front := strings.Join(pieces[:i], " ")
		for _, p := range any {
			checkRules(t, r, front+" "+p)
		}
	}
}

// Any text is answered, and what is not read has a fault within it.
func TestParseAnyText(t *testing.T) {
	m := maker{rand.New(rand.NewSource(14))}
	for range 20000 {
		src := "fn f() { say " + madeText(m.Rand, goodPieces, 2) + "; }"
		got, f := impl.Parse(src)
		_, scanned := impl.Scan(src)
		if scanned.Code != 0 && f != scanned || scanned.Code == 0 && f.Code != 0 && f.Code != 6 && f.Code != 7 {
			t.Fatalf("%q: %+v, %+v by Scan", src, f, scanned)
		}
		if f.At < 0 || f.At > len(src) || (f.Code == 0) != (got.Nodes != nil) || f.Code == 0 && !impl.ValidTree(got) {
			t.Fatalf("%q: %+v", src, f)
		}
	}
}
