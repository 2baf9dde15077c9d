package tests

import (
	"math"
	"slices"
	"strings"
	"testing"
	"unsafe"

	"loop.example/kilnmill/impl"
)

// twig is a node with its kids, of which the tests make trees by hand.
type twig struct {
	node impl.Node
	kids []twig
}

func grow(n impl.Node, kids ...twig) twig {
	n.Kids = len(kids)
	return twig{n, kids}
}

func treeOf(root twig) impl.Tree { return impl.Tree{Nodes: nodesOf(nil, root)} }

func nodesOf(list []impl.Node, w twig) []impl.Node {
	for _, k := range w.kids {
		list = nodesOf(list, k)
	}
	return append(list, w.node)
}

func xInt(typ int, n int64) twig { return grow(impl.Node{Kind: impl.NodeInt, Type: typ, N: n}) }
func xNum(n int64) twig          { return xInt(impl.TypeI64, n) }
func xText(s string) twig        { return grow(impl.Node{Kind: impl.NodeText, Text: s}) }
func xBool(n int64) twig         { return grow(impl.Node{Kind: impl.NodeBool, N: n}) }
func xName(s string) twig        { return grow(impl.Node{Kind: impl.NodeName, Text: s}) }
func xUn(op int, k twig) twig    { return grow(impl.Node{Kind: impl.NodeUn, Op: op}, k) }
func xBin(op int, a, b twig) twig {
	return grow(impl.Node{Kind: impl.NodeBin, Op: op}, a, b)
}
func xCall(s string, kids ...twig) twig {
	return grow(impl.Node{Kind: impl.NodeCall, Text: s}, kids...)
}
func xBuilt(op int, kids ...twig) twig {
	return grow(impl.Node{Kind: impl.NodeBuilt, Op: op}, kids...)
}
func xConv(typ int, k twig) twig { return grow(impl.Node{Kind: impl.NodeConv, Type: typ}, k) }
func xLet(s string, k twig) twig { return grow(impl.Node{Kind: impl.NodeLet, Text: s}, k) }
func xSet(s string, k twig) twig { return grow(impl.Node{Kind: impl.NodeSet, Text: s}, k) }
func xIf(kids ...twig) twig      { return grow(impl.Node{Kind: impl.NodeIf}, kids...) }
func xWhile(e, b twig) twig      { return grow(impl.Node{Kind: impl.NodeWhile}, e, b) }
func xBreak() twig               { return grow(impl.Node{Kind: impl.NodeBreak}) }
func xContinue() twig            { return grow(impl.Node{Kind: impl.NodeContinue}) }
func xReturn(kids ...twig) twig  { return grow(impl.Node{Kind: impl.NodeReturn}, kids...) }
func xFail(e twig) twig          { return grow(impl.Node{Kind: impl.NodeFail}, e) }
func xWrite(a, b twig) twig      { return grow(impl.Node{Kind: impl.NodeWrite}, a, b) }
func xSay(e twig) twig           { return grow(impl.Node{Kind: impl.NodeSay}, e) }
func xDo(e twig) twig            { return grow(impl.Node{Kind: impl.NodeDo}, e) }
func xBlock(kids ...twig) twig   { return grow(impl.Node{Kind: impl.NodeBlock}, kids...) }
func xParam(s string, typ int) twig {
	return grow(impl.Node{Kind: impl.NodeParam, Text: s, Type: typ})
}
func xFn(s string, typ int, kids ...twig) twig {
	return grow(impl.Node{Kind: impl.NodeFn, Text: s, Type: typ}, kids...)
}
func xProgram(kids ...twig) twig { return grow(impl.Node{Kind: impl.NodeProgram}, kids...) }

// xMain is a program of one function with these statements.
func xMain(kids ...twig) twig {
	return xProgram(xFn("f", impl.TypeNone, xBlock(kids...)))
}

func same(a, b impl.Tree) bool { return slices.Equal(a.Nodes, b.Nodes) }

func wantTree(t *testing.T, src string, want twig) {
	t.Helper()
	got, f := impl.Parse(src)
	if f != (impl.Fault{}) || !same(got, treeOf(want)) {
		t.Errorf("%.60q: %+v %+v, want %+v", src, got, f, treeOf(want))
	}
	if !impl.ValidTree(got) {
		t.Errorf("%.60q: a tree that is not valid", src)
	}
}

func wantUnread(t *testing.T, src string, code, at int) {
	t.Helper()
	got, f := impl.Parse(src)
	if f != (impl.Fault{Code: code, At: at}) || got.Nodes != nil {
		t.Errorf("%.60q: %d nodes, %+v, want code %d at %d", src, len(got.Nodes), f, code, at)
	}
}

// wantUnreadAt takes the place from the text: it is where the byte @ stands, which is left out.
func wantUnreadAt(t *testing.T, src string) {
	t.Helper()
	at := strings.IndexByte(src, '@')
	if at < 0 {
		t.Fatalf("%q shows no place", src)
	}
	wantUnread(t, src[:at]+src[at+1:], 6, at)
}

var binMarks = []string{"", "||", "&&", "==", "!=", "<", "<=", ">", ">=", "+", "-", "|", "^", "*", "/", "%", "&", "<<", ">>"}
var binRanks = []int{0, 1, 2, 3, 3, 3, 3, 3, 3, 4, 4, 4, 4, 5, 5, 5, 5, 5, 5}
var unMarks = []string{"", "-", "!", "~"}
var builtWords = []string{"", "read", "has", "list", "tool", "arg", "len", "at", "cut", "find", "chr", "dec", "num"}
var builtKids = []int{0, 1, 1, 1, 2, 0, 1, 2, 3, 2, 1, 1, 1}

// Each kind of statement and of E, as it is written.
func TestParseKinds(t *testing.T) {
	a, b, one := xName("a"), xName("b"), xNum(1)
	for _, c := range []struct {
		src  string
		want twig
	}{
		{"let x = 1;", xLet("x", one)},
		{"x = 1;", xSet("x", one)},
		{"x = a;", xSet("x", a)},
		{"if a { }", xIf(a, xBlock())},
		{"if a { } else { }", xIf(a, xBlock(), xBlock())},
		{"if a { break; } else if b { continue; }", xIf(a, xBlock(xBreak()), xIf(b, xBlock(xContinue())))},
		{"if a { } else if b { } else { say a; }", xIf(a, xBlock(), xIf(b, xBlock(), xBlock(xSay(a))))},
		{"if (a) { if b { } else { } }", xIf(a, xBlock(xIf(b, xBlock(), xBlock())))},
		{"if a { if b { } } else { }", xIf(a, xBlock(xIf(b, xBlock())), xBlock())},
		{"while a { }", xWhile(a, xBlock())},
		{"while a { while b { break; } continue; }", xWhile(a, xBlock(xWhile(b, xBlock(xBreak())), xContinue()))},
		{"break;", xBreak()},
		{"continue;", xContinue()},
		{"return;", xReturn()},
		{"return 1;", xReturn(one)},
		{"return (a);", xReturn(a)},
		{"fail a;", xFail(a)},
		{"write a, b;", xWrite(a, b)},
		{"write (a), (b);", xWrite(a, b)},
		{"say a;", xSay(a)},
		{"g();", xDo(xCall("g"))},
		{"g(a);", xDo(xCall("g", a))},
		{"g(a, b, 1);", xDo(xCall("g", a, b, one))},
		{"say \"\";", xSay(xText(""))},
		{"say \"(\";", xSay(xText("("))},
		{"say \"fn\" + \"-\";", xSay(xBin(impl.OpAdd, xText("fn"), xText("-")))},
		{"say \"\\00\\22\\5c\\ff;\";", xSay(xText("\x00\"\\\xff;"))},
		{"say true;", xSay(xBool(1))},
		{"say false;", xSay(xBool(0))},
		{"say f(f(), g(h(a)));", xSay(xCall("f", xCall("f"), xCall("g", xCall("h", a))))},
		{"say arg();", xSay(xBuilt(impl.BuiltArg))},
		{"say (((a)));", xSay(a)},
		{"say ((a)+((b)));", xSay(xBin(impl.OpAdd, a, b))},
		{"say - -a;", xSay(xUn(impl.OpNeg, xUn(impl.OpNeg, a)))},
		{"say --a;", xSay(xUn(impl.OpNeg, xUn(impl.OpNeg, a)))},
		{"say a--a;", xSay(xBin(impl.OpSub, a, xUn(impl.OpNeg, a)))},
		{"say a-1;", xSay(xBin(impl.OpSub, a, one))},
		{"say -1;", xSay(xUn(impl.OpNeg, one))},
		{"say -f(a);", xSay(xUn(impl.OpNeg, xCall("f", a)))},
		{"say -u8(a);", xSay(xUn(impl.OpNeg, xConv(impl.TypeU8, a)))},
		{"say !(a == b);", xSay(xUn(impl.OpNot, xBin(impl.OpSame, a, b)))},
	} {
		wantTree(t, "fn f() { "+c.src+" }", xMain(c.want))
		wantTree(t, "fn f(){"+c.src+"break;}", xMain(c.want, xBreak()))
		wantTree(t, "fn f(){while a{"+c.src+"}"+c.src+"}", xMain(xWhile(a, xBlock(c.want)), c.want))
	}
}

func TestParseOps(t *testing.T) {
	a, b := xName("a"), xName("b")
	for op := impl.OpOr; op <= impl.OpRight; op++ {
		wantTree(t, "fn f() { say a "+binMarks[op]+" b; }", xMain(xSay(xBin(op, a, b))))
		wantTree(t, "fn f(){say a"+binMarks[op]+"b;}", xMain(xSay(xBin(op, a, b))))
	}
	for op := impl.OpNeg; op <= impl.OpInv; op++ {
		wantTree(t, "fn f() { say "+unMarks[op]+"a; }", xMain(xSay(xUn(op, a))))
		wantTree(t, "fn f() { say "+unMarks[op]+" ( a ) ; }", xMain(xSay(xUn(op, a))))
	}
	for op := impl.BuiltRead; op <= impl.BuiltNum; op++ {
		kids := []twig{a, b, xNum(7)}[:builtKids[op]]
		src := "fn f() { say " + builtWords[op] + "(" + strings.Join([]string{"a", "b", "7"}[:builtKids[op]], ", ")
		wantTree(t, src+"); }", xMain(xSay(xBuilt(op, kids...))))
		if builtKids[op] == 0 {
			wantUnreadAt(t, src+"@a); }")
			continue
		}
		wantUnreadAt(t, src+"@, a); }")
		for kids := range builtKids[op] {
			src := "fn f() { say " + builtWords[op] + "(" + strings.Join([]string{"a", "b", "7"}[:kids], ", ")
			wantUnreadAt(t, src+"@); }")
		}
	}
	for typ := impl.TypeBool; typ <= impl.TypeI64; typ++ {
		if typ < impl.TypeU8 {
			wantUnreadAt(t, "fn f() { say @"+typeWords[typ]+"(a); }")
			continue
		}
		wantTree(t, "fn f() { say "+typeWords[typ]+"(a + b); }", xMain(xSay(xConv(typ, xBin(impl.OpAdd, a, b)))))
		wantUnreadAt(t, "fn f() { say "+typeWords[typ]+" @a; }")
		wantUnreadAt(t, "fn f() { say "+typeWords[typ]+"(@); }")
		wantUnreadAt(t, "fn f() { say "+typeWords[typ]+"(a@, b); }")
	}
}

func TestParseFunctions(t *testing.T) {
	empty := xBlock()
	wantTree(t, "fn f() { }", xMain())
	wantTree(t, "fn f(){}fn g(){}", xProgram(xFn("f", 0, empty), xFn("g", 0, empty)))
	wantTree(t, "fn f() { } fn f() { }", xProgram(xFn("f", 0, empty), xFn("f", 0, empty)))
	wantTree(t, "fn f(f text, f text) { }", xProgram(xFn("f", 0, xParam("f", impl.TypeText), xParam("f", impl.TypeText), empty)))
	for typ := impl.TypeBool; typ <= impl.TypeI64; typ++ {
		w := typeWords[typ]
		wantTree(t, "fn f()->"+w+"{}", xProgram(xFn("f", typ, empty)))
		wantTree(t, "fn f(a "+w+",b "+w+") { }", xProgram(xFn("f", 0, xParam("a", typ), xParam("b", typ), empty)))
	}
}

// split reads E beside each other in another way than the parser: at the last mark of the lowest rank.
func split(kids []twig, ops []int) (twig, bool) {
	if len(ops) == 0 {
		return kids[0], true
	}
	at := 0
	compares := 0
	for i, op := range ops {
		if binRanks[op] <= binRanks[ops[at]] {
			at = i
		}
	}
	for _, op := range ops {
		if binRanks[op] == 3 {
			compares++
		}
	}
	if binRanks[ops[at]] == 3 && compares > 1 {
		return twig{}, false
	}
	left, ok1 := split(kids[:at+1], ops[:at])
	right, ok2 := split(kids[at+1:], ops[at+1:])
	return xBin(ops[at], left, right), ok1 && ok2
}

// Any three marks beside each other, with all ranks in all orders.
func TestParseRanks(t *testing.T) {
	kids := []twig{xName("a"), xUn(impl.OpNeg, xName("b")), xUn(impl.OpNot, xUn(impl.OpInv, xName("c"))), xName("d")}
	read, unread := 0, 0
	for x := impl.OpOr; x <= impl.OpRight; x++ {
		for y := impl.OpOr; y <= impl.OpRight; y++ {
			for z := impl.OpOr; z <= impl.OpRight; z++ {
				src := "fn f() { say a " + binMarks[x] + " -b " + binMarks[y] + " !~c " + binMarks[z] + " d; }"
				want, ok := split(kids, []int{x, y, z})
				if ok {
					wantTree(t, src, xMain(xSay(want)))
					read++
				} else if _, f := impl.Parse(src); f.Code != 6 {
					t.Errorf("%q: %+v", src, f)
				} else {
					unread++
				}
			}
		}
	}
	if read < 4000 || unread < 400 {
		t.Errorf("%d read, %d not", read, unread)
	}
}

func TestParseComparesBesideEachOther(t *testing.T) {
	for x := impl.OpSame; x <= impl.OpLeast; x++ {
		for y := impl.OpSame; y <= impl.OpLeast; y++ {
			m, n := " "+binMarks[x]+" ", binMarks[y]+" "
			wantUnreadAt(t, "fn f() { say a"+m+"b @"+n+"c; }")
			wantUnreadAt(t, "fn f() { say a + 1"+m+"b * 2 @"+n+"c; }")
			wantUnreadAt(t, "fn f() { say a || b && c"+m+"d @"+n+"e; }")
			wantUnreadAt(t, "fn f() { say (a"+m+"b @"+n+"c); }")
			wantUnreadAt(t, "fn f() { say a"+m+"!b @"+n+"c && d; }")
			wantUnreadAt(t, "fn f() { if a"+m+"b @"+n+"c { } }")
			wantTree(t, "fn f() { say a"+m+"(b "+n+"c); }", xMain(xSay(xBin(x, xName("a"), xBin(y, xName("b"), xName("c"))))))
			wantTree(t, "fn f() { say (a"+m+"b) "+n+"c; }", xMain(xSay(xBin(y, xBin(x, xName("a"), xName("b")), xName("c")))))
			wantTree(t, "fn f() { say a"+m+"b && b "+n+"c; }", xMain(xSay(xBin(impl.OpAnd, xBin(x, xName("a"), xName("b")), xBin(y, xName("b"), xName("c"))))))
		}
	}
}

// allKinds has every kind of node, and whatever a kind can be.
func allKinds() twig {
	a := xName("a")
	var body []twig
	for typ := impl.TypeU8; typ <= impl.TypeI64; typ++ {
		body = append(body, xLet("n", xConv(typ, xInt(typ, 7))))
	}
	for op := impl.OpNeg; op <= impl.OpInv; op++ {
		body = append(body, xSet("a", xUn(op, a)))
	}
	for op := impl.OpOr; op <= impl.OpRight; op++ {
		body = append(body, xSay(xBin(op, a, xBool(1))))
	}
	for op := impl.BuiltRead; op <= impl.BuiltNum; op++ {
		body = append(body, xFail(xBuilt(op, []twig{xText("x"), a, xNum(0)}[:builtKids[op]]...)))
	}
	body = append(body, xIf(a, xBlock(xBreak()), xIf(xBool(0), xBlock(), xBlock(xContinue()))), xIf(a, xBlock()),
		xWhile(xCall("g", a, xText("\"\\\n")), xBlock(xReturn(), xReturn(a))), xWrite(xText(""), a), xDo(xCall("g")), xDo(xCall("g", a, a)))
	return xProgram(xFn("f", impl.TypeNone, xBlock(body...)),
		xFn("main", impl.TypeText, xParam("b", impl.TypeBool), xParam("c", impl.TypeI64), xBlock()))
}

// Between all tokens gaps may stand, and none must where the tokens can be told apart.
func TestParseGaps(t *testing.T) {
	want := treeOf(allKinds())
	src := impl.Print(want)
	toks, _ := impl.Scan(src)
	for _, gap := range []string{" ", "\n", "  \n ", "#\n", " # fn @ \" { 01\n"} {
		var b strings.Builder
		b.WriteString(gap)
		for _, k := range toks {
			b.WriteString(written(k) + gap)
		}
		if got, f := impl.Parse(b.String()); f != (impl.Fault{}) || !same(got, want) {
			t.Errorf("%q: %+v", gap, f)
		}
	}
	tight := ""
	for i, k := range toks {
		more := tight + written(k)
		if again, f := impl.Scan(more); f != (impl.Fault{}) || len(again) != i+1 {
			more = tight + " " + written(k)
		}
		tight = more
	}
	if got, f := impl.Parse(tight); f != (impl.Fault{}) || !same(got, want) || len(tight) >= len(src) {
		t.Errorf("%q: %+v", tight, f)
	}
	wantTree(t, "fn f() { } # the end", xMain())
	wantTree(t, "#\nfn f() { }\n\n", xMain())
}

func TestParseLimits(t *testing.T) {
	fns := strings.Repeat("fn f(){}", impl.MaxFns)
	if got, f := impl.Parse(fns); f != (impl.Fault{}) || len(got.Nodes) != 2*impl.MaxFns+1 {
		t.Errorf("%d nodes, %+v", len(got.Nodes), f)
	}
	wantUnread(t, fns+" fn f(){}", 7, 0)
	wantUnread(t, "", 7, 0)
	wantUnread(t, " # nothing\n", 7, 0)

	params := strings.Repeat("a u8, ", impl.MaxArgs-1)
	if _, f := impl.Parse("fn f(" + params + "a u8) { }"); f != (impl.Fault{}) {
		t.Errorf("%+v", f)
	}
	wantUnread(t, "fn f("+params+"a u8, a u8) { }", 7, 0)
	args := strings.Repeat("1, ", impl.MaxArgs-1)
	for _, front := range []string{"", "say ", "let x = 1 + ", "x = "} {
		if _, f := impl.Parse("fn f() { " + front + "g(" + args + "1); }"); f != (impl.Fault{}) {
			t.Errorf("%+v", f)
		}
		wantUnread(t, "fn f() { "+front+"g("+args+"1, 1); }", 7, 0)
	}

	n := strings.Repeat("n", impl.MaxName)
	wantTree(t, "fn "+n+"() { }", xProgram(xFn(n, 0, xBlock())))
	wantUnread(t, "fn "+n+"n() { }", 5, 3)
	x := strings.Repeat("x", impl.MaxText)
	wantTree(t, "fn f() { say \""+x+"\"; }", xMain(xSay(xText(x))))
	wantUnread(t, "fn f() { say \""+x+"x\"; }", 5, 13)
	wantTree(t, "fn f() { }"+strings.Repeat(" ", impl.MaxSrc-10), xMain())
	wantUnread(t, "fn f() { }"+strings.Repeat(" ", impl.MaxSrc-9), 1, 0)
	wantUnread(t, "fn f() { "+strings.Repeat("#", impl.MaxSrc-9), 6, impl.MaxSrc)
}

func TestParseNumbers(t *testing.T) {
	for _, c := range greatestNumbers {
		for _, w := range c.words {
			wantTree(t, "fn f() { say "+c.most+w+"; }", xMain(xSay(xInt(c.typ, c.n))))
			wantTree(t, "fn f() { say -"+c.most+w+"; }", xMain(xSay(xUn(impl.OpNeg, xInt(c.typ, c.n)))))
			wantTree(t, "fn f() { say 0"+w+"; }", xMain(xSay(xInt(c.typ, 0))))
			wantUnread(t, "fn f() { say "+c.more+w+"; }", 3, 13)
			wantUnread(t, "fn f() { say -"+c.more+w+"; }", 3, 14)
		}
	}
}

var greatestNumbers = []struct {
	words      []string
	most, more string
	typ        int
	n          int64
}{
	{[]string{"", "i64"}, "9223372036854775807", "9223372036854775808", impl.TypeI64, math.MaxInt64},
	{[]string{"i32"}, "2147483647", "2147483648", impl.TypeI32, math.MaxInt32},
	{[]string{"i16"}, "32767", "32768", impl.TypeI16, math.MaxInt16},
	{[]string{"i8"}, "127", "128", impl.TypeI8, math.MaxInt8},
	{[]string{"u64"}, "18446744073709551615", "18446744073709551616", impl.TypeU64, -1},
	{[]string{"u32"}, "4294967295", "4294967296", impl.TypeU32, math.MaxUint32},
	{[]string{"u16"}, "65535", "65536", impl.TypeU16, math.MaxUint16},
	{[]string{"u8"}, "255", "256", impl.TypeU8, math.MaxUint8},
}

// deepForms are statements with n nodes one above the other; a statement of a function has three above it.
var deepForms = []struct {
	name string
	form func(n int) string
}{
	{"marks in front", func(n int) string { return "say " + strings.Repeat("-", n-2) + "1;" }},
	{"marks between, left", func(n int) string { return "say 1" + strings.Repeat("+1", n-2) + ";" }},
	{"marks between, right", func(n int) string {
		return "say " + strings.Repeat("1+(", n-2) + "1" + strings.Repeat(")", n-2) + ";"
	}},
	{"calls", func(n int) string {
		return "say " + strings.Repeat("g(", n-2) + "1" + strings.Repeat(")", n-2) + ";"
	}},
	{"words", func(n int) string {
		return "say " + strings.Repeat("len(", n-2) + "1" + strings.Repeat(")", n-2) + ";"
	}},
	{"types", func(n int) string {
		return "say " + strings.Repeat("u8(", n-2) + "1" + strings.Repeat(")", n-2) + ";"
	}},
	{"else if", func(n int) string {
		return strings.Repeat("if a { } else ", n-2) + "if a { }"
	}},
	{"if", func(n int) string {
		s := "if a { }"
		for i := 4; i <= n; i += 2 {
			s = "if a {" + s + "}"
		}
		if n%2 == 1 {
			s = strings.Replace(s, "{ }", "{break;}", 1)
		}
		return s
	}},
	{"while", func(n int) string {
		s := "while a { }"
		for i := 4; i <= n; i += 2 {
			s = "while a {" + s + "}"
		}
		if n%2 == 1 {
			s = strings.Replace(s, "{ }", "{break;}", 1)
		}
		return s
	}},
}

// levelsOf is how many nodes of a tree stand one above the other.
func levelsOf(nodes []impl.Node) int {
	var levels []int
	for _, n := range nodes {
		first := len(levels) - n.Kids
		most := 0
		for _, l := range levels[first:] {
			most = max(most, l)
		}
		levels = append(levels[:first], most+1)
	}
	return levels[0]
}

func TestParseDepth(t *testing.T) {
	for _, c := range deepForms {
		for n := impl.MaxNest - 4; n <= impl.MaxNest+4; n++ {
			src := "fn f() { " + c.form(n) + " }"
			got, f := impl.Parse(src)
			if n+3 > impl.MaxNest+1 {
				wantUnread(t, src, 7, 0)
			} else if f != (impl.Fault{}) || levelsOf(got.Nodes) != n+3 {
				t.Errorf("%s, %d: %+v", c.name, n, f)
			}
			wantUnread(t, src+" }", 6, len(src)+1)
			wantUnread(t, src[:len(src)-1], 6, len(src)-1)
		}
		for n := 3; ; n = n * 3 / 2 {
			src := "fn f() { " + c.form(n) + " }"
			if len(src) > impl.MaxSrc {
				break
			}
			if got, f := impl.Parse(src); (f == impl.Fault{}) != (n+3 <= impl.MaxNest+1) || f.Code != 0 && (f != impl.Fault{Code: 7} || got.Nodes != nil) {
				t.Errorf("%s, %d: %+v", c.name, n, f)
			}
		}
	}
	half := (impl.MaxSrc - 20) / 2
	wantTree(t, "fn f() { say "+strings.Repeat("(", half)+"1"+strings.Repeat(")", half)+"; }", xMain(xSay(xNum(1))))
	wantUnread(t, "fn f() { say "+strings.Repeat("(", impl.MaxSrc-13), 6, impl.MaxSrc)
	wantUnread(t, "fn f() { say "+strings.Repeat("-", impl.MaxSrc-13), 6, impl.MaxSrc)
	wantUnread(t, "fn f() { say "+strings.Repeat("!", impl.MaxSrc-14)+"}", 6, impl.MaxSrc-1)
	wantUnread(t, "fn f() { say "+strings.Repeat("f(", (impl.MaxSrc-13)/2), 6, 13+(impl.MaxSrc-13)/2*2)
}

func TestParseFaultsOfScan(t *testing.T) {
	wantUnread(t, strings.Repeat(")", impl.MaxSrc+1), 1, 0)
	wantUnread(t, "fn f() { say @; }", 2, 13)
	wantUnread(t, ") fn f() { ] }", 2, 11)
	wantUnread(t, "fn f( 01", 3, 6)
	wantUnread(t, "} 256u8", 3, 2)
	wantUnread(t, "fn f() { say \"a; }", 4, 13)
	wantUnread(t, "} \"", 4, 2)
	wantUnread(t, "fn fn \""+strings.Repeat("x", impl.MaxText+1)+"\"", 5, 6)
	wantUnread(t, "fn fn "+strings.Repeat("x", impl.MaxName+1), 5, 6)
	wantUnread(t, strings.Repeat("fn f(){}", impl.MaxFns+1)+"@", 2, 8*(impl.MaxFns+1))
	wantUnread(t, strings.Repeat("fn f(){}", impl.MaxFns+1)+"}", 6, 8*(impl.MaxFns+1))
}

// The token at which nothing goes on.
func TestParseWrongTokens(t *testing.T) {
	for _, s := range []string{
		"@f", "@1", "@\"fn\"", "@(", "@}", "@let x = 1;", "fn f() { } @;", "fn f() { } @f", "fn f() { }@}", "fn f() { }\n @main() { }",
		"fn @fn", "fn @1", "fn @\"f\"() { }", "fn @() { }", "fn @text() { }", "fn f @{ }", "fn f @-> text { }", "fn f @\"(\"",
		"fn f(@, a u8) { }", "fn f(@u8 a) { }", "fn f(a@) { }", "fn f(a @, b u8) { }", "fn f(a u8@; b u8) { }", "fn f(a u8 @b u8) { }", "fn f(a u8, @) { }", "fn f(a u8,@,b u8) { }", "fn f(a @b) { }", "fn f(a @fn) { }", "fn f(a @\"u8\") { }", "fn f(a u8 @u8) { }", "fn f(@1) { }", "fn f(@()) { }",
		"fn f() @text { }", "fn f() -> @{ }", "fn f() -> @f { }", "fn f() -> @\"text\" { }", "fn f() -> text @-> text { }", "fn f() -> @let { }", "fn f() @- > text { }", "fn f() @= text { }", "fn f()@;", "fn f()@\"{\"", "fn f() @( { }",
		"fn f() { @{ } }", "fn f() { @; }", "fn f() { @1; }", "fn f() { @\"a\"; }", "fn f() { @(a); }", "fn f() { @fn g() { } }", "fn f() { @else { } }", "fn f() { @true; }", "fn f() { @read(a); }", "fn f() { @u8(a); }", "fn f() { @-a; }", "fn f() { @, }", "fn f() { break; @; }", "fn f() { @arg(); }", "fn f() { @u8 a = 1; }",
		"fn f() { a@; }", "fn f() { a @+ b; }", "fn f() { a @== b; }", "fn f() { a @b; }", "fn f() { a@}", "fn f() { a @1 }", "fn f() { a @{ } }", "fn f() { a = @= b; }", "fn f() { a = @; }", "fn f() { a = b @= c; }", "fn f() { a = b@}", "fn f() { a = @let; }",
		"fn f() { g() @+ 1; }", "fn f() { g() @= 1; }", "fn f() { g()@(); }", "fn f() { g()@}", "fn f() { g(@,); }", "fn f() { g(1,@); }", "fn f() { g(1 @2); }", "fn f() { g(1@; }", "fn f() { g(1@} }", "fn f() { g(@}",
		"fn f() { let @= 1; }", "fn f() { let @1 = 1; }", "fn f() { let @if = 1; }", "fn f() { let @u8 = 1; }", "fn f() { let x @1; }", "fn f() { let x @== 1; }", "fn f() { let x = @; }", "fn f() { let x = 1@, y = 2; }", "fn f() { let x @u8 = 1; }", "fn f() { let x = 1 @let", "fn f() { let x@; }",
		"fn f() { if @{ } }", "fn f() { if a @; }", "fn f() { if a @b { } }", "fn f() { if a @break; }", "fn f() { if a { } else @; }", "fn f() { if a { } else @while a { } }", "fn f() { if a { } else @break; }", "fn f() { if a { } else { } @else { } }", "fn f() { if a { } else if @{ } }", "fn f() { if a { } else if a { } else @a", "fn f() { if a { }@; }", "fn f() { if (a @{ } }", "fn f() { if a @= b { } }",
		"fn f() { while @{ } }", "fn f() { while a @; }", "fn f() { while a { } @else { } }", "fn f() { while a { }@; }", "fn f() { while @while a { } }",
		"fn f() { break @a; }", "fn f() { break@}", "fn f() { continue @1; }", "fn f() { continue@}", "fn f() { return@}", "fn f() { return a @b; }", "fn f() { return @, }", "fn f() { return @return; }", "fn f() { return @{ } }", "fn f() { return; @; }", "fn f() { return @= 1; }",
		"fn f() { fail@; }", "fn f() { fail a@, b; }", "fn f() { say@; }", "fn f() { say a@, b; }", "fn f() { say @say a; }", "fn f() { write@; }", "fn f() { write a@; }", "fn f() { write a @b; }", "fn f() { write a, @; }", "fn f() { write a, b@, c; }", "fn f() { write @, b; }", "fn f() { write (a@, b); }",
		"fn f() { say a @a; }", "fn f() { say 1 @1; }", "fn f() { say a + @; }", "fn f() { say a + @* b; }", "fn f() { say a @! b; }", "fn f() { say a @~ b; }", "fn f() { say !@; }", "fn f() { say -@+ a; }", "fn f() { say @+a; }", "fn f() { say @*a; }", "fn f() { say @&a; }", "fn f() { say a @-> b; }", "fn f() { say a @= b; }", "fn f() { say (@); }", "fn f() { say (a@; }", "fn f() { say (a@, b); }", "fn f() { say (a)@); }", "fn f() { say a@); }", "fn f() { say (a) @(b); }", "fn f() { say 1@(a); }", "fn f() { say \"a\"@(a); }", "fn f() { say true@(); }", "fn f() { say f()@(); }", "fn f() { say @let; }", "fn f() { say @if a { } }", "fn f() { say @fn; }", "fn f() { say @else; }", "fn f() { say @bool; }", "fn f() { say @text; }", "fn f() { say @{ }; }",
		"fn f() { say len @a; }", "fn f() { say len@; }", "fn f() { say arg@; }", "fn f() { say u8@; }", "fn f() { say u8 @8; }", "fn f() { say at(a @b); }", "fn f() { say cut(a, b@; }", "fn f() { say f(a)@{ } }",
	} {
		wantUnreadAt(t, s)
	}
}

// The end of the text within anything: it is told at the size of the text, gaps and all.
func TestParseEndsTooEarly(t *testing.T) {
	src := impl.Print(treeOf(allKinds()))
	toks, _ := impl.Scan(src)
	ends := 0
	for i, k := range toks {
		whole := i == 0 || k.Text == "fn"
		for _, gap := range []string{"", " ", "\n#", "# }}\n "} {
			cut := src[:k.At] + gap
			got, f := impl.Parse(cut)
			switch {
			case i == 0:
				wantUnread(t, cut, 7, 0)
			case whole:
				ends++
				if f != (impl.Fault{}) || len(got.Nodes) == 0 {
					t.Errorf("%q: %+v", cut, f)
				}
			default:
				wantUnread(t, cut, 6, len(cut))
			}
		}
	}
	if ends != 4 {
		t.Errorf("%d ends", ends)
	}
}

func TestTreesAreNewMemory(t *testing.T) {
	src := strings.Clone("fn long_name(param text) { say \"some text\"; long_name(param); }")
	from := uintptr(unsafe.Pointer(unsafe.StringData(src)))
	first, _ := impl.Parse(src)
	for _, n := range first.Nodes {
		if n.Text == "" {
			continue
		}
		if at := uintptr(unsafe.Pointer(unsafe.StringData(n.Text))); at >= from && at < from+uintptr(len(src)) {
			t.Errorf("%q lies in the argument", n.Text)
		}
	}
	again, _ := impl.Parse(src)
	kept := slices.Clone(again.Nodes)
	clear(first.Nodes[:cap(first.Nodes)])
	if !slices.Equal(again.Nodes, kept) {
		t.Error("two answers share memory")
	}
	list := append(treeOf(allKinds()).Nodes, impl.Node{Kind: 99}, impl.Node{Kind: 98})
	kept = slices.Clone(list)
	tree := impl.Tree{Nodes: list[:len(list)-2]}
	if !impl.ValidTree(tree) || impl.Print(tree) == "" || !slices.Equal(list, kept) {
		t.Error("an argument was changed")
	}
}
