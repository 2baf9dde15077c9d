package tests

import (
	"slices"
	"strings"
	"testing"
	"unsafe"

	"loop.example/kilnmill/impl"
)

// foldNames are names of each type, in the order of the types.
var foldNames = []string{"", "nb", "nt", "na", "nc", "nd", "ne", "nf", "ng", "nh", "ni"}

// amongNames is a program in which statements see a name of each type.
func amongNames(statements ...twig) impl.Tree {
	fn := xFn("f", impl.TypeNone, xBlock(statements...))
	// Eight is the most that a function can take, so two of the names are made inside.
	for typ := impl.TypeI64; typ > impl.TypeText; typ-- {
		fn.kids = slices.Insert(fn.kids, 0, xParam(foldNames[typ], typ))
	}
	own := []twig{xLet("nb", xBool(1)), xLet("nt", xText(""))}
	fn.kids[8] = xBlock(append(own, statements...)...)
	fn.node.Kids = 9
	return treeOf(xProgram(fn, xFn("main", impl.TypeText, xBlock(xReturn(xText(""))))))
}

// amongNamesRead is the same of statements that are written.
func amongNamesRead(t *testing.T, statements string) impl.Tree {
	t.Helper()
	var params []string
	for typ := impl.TypeU8; typ <= impl.TypeI64; typ++ {
		params = append(params, foldNames[typ]+" "+typeWords[typ])
	}
	return parsed(t, "fn f("+strings.Join(params, ", ")+") { let nb = true; let nt = \"\"; "+statements+" } fn main() -> text { return \"\"; }")
}

// wantFolded holds Fold of a tree, and the model's, against a tree.
func wantFolded(t *testing.T, tree, want impl.Tree) {
	t.Helper()
	checkFold(t, tree, want)
	if model := modelFold(tree); !same(model, want) {
		t.Fatalf("the model says\n%.2000s\nwant\n%.2000s", impl.Print(model), impl.Print(want))
	}
}

// checkFold holds Fold of a tree against a tree, with all that P6 says of it.
func checkFold(t *testing.T, tree, want impl.Tree) {
	t.Helper()
	before := slices.Clone(tree.Nodes)
	got := impl.Fold(tree)
	if !same(got, want) {
		t.Fatalf("%.2000s\nis folded to\n%.2000s\nwant\n%.2000s", impl.Print(tree), impl.Print(got), impl.Print(want))
	}
	if !slices.Equal(tree.Nodes, before) {
		t.Fatalf("the argument was changed:\n%.2000s", impl.Print(tree))
	}
	if f := impl.Check(got); f != (impl.Fault{}) && len(got.Nodes) > 0 {
		t.Fatalf("%.2000s\nis folded to what does not fit, %+v:\n%.2000s", impl.Print(tree), f, impl.Print(got))
	}
	if len(got.Nodes) > len(tree.Nodes) {
		t.Fatalf("%d nodes became %d", len(tree.Nodes), len(got.Nodes))
	}
	if again := impl.Fold(got); !same(again, got) {
		t.Fatalf("%.2000s\nis folded once more to\n%.2000s", impl.Print(got), impl.Print(again))
	}
}

// wantFoldedE holds an E that is written against what it becomes.
func wantFoldedE(t *testing.T, e, want string) {
	t.Helper()
	wantFolded(t, amongNamesRead(t, "let z = "+e+";"), amongNamesRead(t, "let z = "+want+";"))
}

func wantStays(t *testing.T, e string) {
	t.Helper()
	wantFoldedE(t, e, e)
}

func TestFoldOrdinary(t *testing.T) {
	for _, c := range []struct{ e, want string }{
		{"1 + 2 * 3", "7"},
		{"(1 + 2) * 3", "9"},
		{"ni + 2 * 3", "ni + 6"},
		{"1 + ni + 2", "1 + ni + 2"},
		{"1 + 2 + ni", "3 + ni"},
		{"ni + 1 + 2", "ni + 1 + 2"},
		{"ni + (1 + 2)", "ni + 3"},
		{"7 - 2", "5"},
		{"7 / 2", "3"},
		{"7 % 4", "3"},
		{"6 | 3", "7"},
		{"6 ^ 3", "5"},
		{"6 & 3", "2"},
		{"1 << 4", "16"},
		{"256 >> 4", "16"},
		{"1 == 1", "true"},
		{"1 != 1", "false"},
		{"1u8 < 2u8", "true"},
		{"2i16 <= 1i16", "false"},
		{"2 > 1", "true"},
		{"2 >= 3", "false"},
		{"true == false", "false"},
		{"true != false", "true"},
		{"\"a\" == \"a\"", "true"},
		{"\"a\" < \"b\"", "true"},
		{"\"a\" + \"b\" + \"c\"", "\"abc\""},
		{"\"a\" + nt + \"b\" + \"c\"", "\"a\" + nt + \"b\" + \"c\""},
		{"\"\" + \"\"", "\"\""},
		{"!true", "false"},
		{"!!nb", "!!nb"},
		{"!(1 == 2)", "true"},
		{"-(0)", "0"},
		{"-3u8", "253u8"},
		{"~0u16", "65535u16"},
		{"u8(300)", "44u8"},
		{"i64(255u8)", "255"},
		{"i64(1)", "1"},
		{"u8(ni)", "u8(ni)"},
		{"u8(ni + (1 + 2))", "u8(ni + 3)"},
		{"len(\"abc\")", "3"},
		{"len(\"\")", "0"},
		{"len(nt)", "len(nt)"},
		{"at(\"abc\", 1)", "98u8"},
		{"cut(\"hello\", 1, 3)", "\"el\""},
		{"cut(\"hello\", len(\"\"), 2 + 3)", "\"hello\""},
		{"find(\"hello\", \"l\")", "2"},
		{"chr(255u8)", "\"\\ff\""},
		{"dec(200u8 + 100u8)", "\"44\""},
		{"num(\"12\")", "12"},
		{"num(dec(u16(len(\"a\" + \"b\"))))", "2"},
		{"nb == (1 == 1)", "nb == true"},
	} {
		wantFoldedE(t, c.e, c.want)
	}
}

// What is a word stays, and so does all that hangs on it.
func TestFoldWords(t *testing.T) {
	long := "\"" + xs(3000) + "\""
	for _, e := range []string{
		"1 / 0", "1 % 0", "0u8 / 0u8", "1 + 1 / 0", "dec(1 % 0)", "1 / 0 == 1 / 0",
		long + " + \"x\"", "\"x\" + " + long,
		"at(\"\", 0)", "at(\"abc\", 3)", "at(\"abc\", 9223372036854775807)",
		"cut(\"abc\", 2, 1)", "cut(\"abc\", 0, 4)", "cut(\"abc\", 4, 4)", "len(cut(\"\", 0, 1))",
		"num(\"\")", "num(\"01\")", "num(\"+1\")", "num(\"a\")", "num(\"1 \")", "num(\"-0\")", "num(\"9223372036854775808\")",
		"read(\"a\")", "has(\"a\")", "list(\"a\")", "tool(\"a\", \"b\")", "arg()", "len(arg())", "arg() + \"a\"",
	} {
		wantStays(t, e)
	}
	// Below what stays, and beside it, there is folding.
	wantFoldedE(t, "(1 + 1) / (1 - 1)", "2 / 0")
	wantFoldedE(t, "at(\"a\" + \"b\", 1 + 1)", "at(\"ab\", 2)")
	wantFoldedE(t, "num(\"0\" + \"1\")", "num(\"01\")")
	wantFoldedE(t, "read(\"a\" + \"b\")", "read(\"ab\")")
	wantFoldedE(t, "tool(\"a\" + \"b\", chr(99u8))", "tool(\"ab\", \"c\")")
	wantFoldedE(t, "has(dec(1 + 2))", "has(\"3\")")
	wantFoldedE(t, "list(cut(\"abc\", 0, 0))", "list(\"\")")
	wantFoldedE(t, "(1 / 0) * (2 + 3)", "(1 / 0) * 5")
}

// A NodeInt has no number below 0, and all bits of one without sign.
func TestFoldNumbers(t *testing.T) {
	for _, e := range []string{
		"-1", "-1i8", "-127i8", "1 - 2", "0i32 - 1i32", "~0", "~7i16", "- -1", "-(-1 + 1)", "1 - 2 + 3", "(1 - 2) * (1 - 2)", "-1 < 0", "dec(-1)",
		"127i8 + 1i8", "32767i16 + 1i16", "2147483647i32 + 1i32", "9223372036854775807 + 1", "64i8 * 2i8", "1i8 << 7i8", "1 << 63",
		"i8(128)", "i8(255u8)", "i16(32768)", "i32(4294967295u32)", "i64(9223372036854775808u64)", "i64(~0i8)",
		"find(\"a\", \"b\")", "num(\"-1\")", "num(\"-9223372036854775808\")", "-1 >> 1", "-7 / 2", "0 == -1", "at(\"a\", -1)", "at(\"a\", 0 - 1)",
	} {
		wantStays(t, e)
	}
	for _, c := range []struct{ e, want string }{
		{"-1u8", "255u8"},
		{"-1u64", "18446744073709551615u64"},
		{"0u64 - 1u64", "18446744073709551615u64"},
		{"9223372036854775807u64 + 1u64", "9223372036854775808u64"},
		{"18446744073709551615u64 + 1u64", "0u64"},
		{"1u64 << 63u64", "9223372036854775808u64"},
		{"~0u64 / 2u64", "9223372036854775807u64"},
		{"~0u64 > 0u64", "true"},
		{"dec(~0u64)", "\"18446744073709551615\""},
		{"u64(9223372036854775807)", "9223372036854775807u64"},
		{"u32(18446744073709551615u64)", "4294967295u32"},
		{"126i8 + 1i8", "127i8"},
		{"127i8 * 127i8", "1i8"},
		{"9223372036854775806 + 1", "9223372036854775807"},
		{"9223372036854775807 * 2 - 1", "9223372036854775807 * 2 - 1"},
		{"3 * 3074457345618258603", "3 * 3074457345618258603"},
		{"i8(256)", "0i8"},
		{"i64(9223372036854775807u64)", "9223372036854775807"},
		{"num(\"9223372036854775807\")", "9223372036854775807"},
		{"1i8 << 8i8", "0i8"},
		{"1i8 << 6i8", "64i8"},
		{"0 - 0", "0"},
	} {
		wantFoldedE(t, c.e, c.want)
	}
}

func TestFoldAndOr(t *testing.T) {
	for _, c := range []struct{ e, want string }{
		{"true && nb", "nb"},
		{"false && nb", "false"},
		{"true || nb", "true"},
		{"false || nb", "nb"},
		{"nb && true", "nb && true"},
		{"nb && false", "nb && false"},
		{"nb || true", "nb || true"},
		{"nb || false", "nb || false"},
		{"nb && nb", "nb && nb"},
		{"true && true", "true"},
		{"true && false", "false"},
		{"false && true", "false"},
		{"false && false", "false"},
		{"true || true", "true"},
		{"true || false", "true"},
		{"false || true", "true"},
		{"false || false", "false"},
		{"1 < 2 && nb", "nb"},
		{"1 > 2 && nb", "false"},
		{"1 < 2 || nb", "true"},
		{"1 > 2 || nb", "nb"},
		{"!true || nb", "nb"},
		{"true && true && nb", "nb"},
		{"false && nb && nb", "false"},
		{"nb && (false && nb)", "nb && false"},
		{"nb && 1 < 2", "nb && true"},
		{"nb || 1 > 2", "nb || false"},
		{"true && nb || true", "nb || true"},
		{"true && has(\"a\" + \"b\")", "has(\"ab\")"},
		{"false || read(\"a\") == nt", "read(\"a\") == nt"},
		{"false && read(\"a\") == nt", "false"},
		{"true && 1 / 0 == 1", "1 / 0 == 1"},
		{"false && 1 / 0 == 1", "false"},
		{"true || 1 / 0 == 1", "true"},
		{"1 / 0 == 1 && true", "1 / 0 == 1 && true"},
		{"1 - 2 < 0 && nb", "1 - 2 < 0 && nb"},
		{"(true && false) == false", "true"},
		{"!(true && nb)", "!nb"},
		{"!(false && nb)", "true"},
		{"(true || nb) != nb", "true != nb"},
		{"(true || nb) && (false || 3 == 3)", "true"},
	} {
		wantFoldedE(t, c.e, c.want)
	}
}

// Each place at which an E may stand.
func TestFoldPlaces(t *testing.T) {
	for _, c := range []struct{ statements, want string }{
		{"let z = 1 + 1;", "let z = 2;"},
		{"ni = 1 + 1;", "ni = 2;"},
		{"if 1 == 1 { }", "if true { }"},
		{"if true { say \"a\" + \"b\"; }", "if true { say \"ab\"; }"},
		{"if false { } else { say \"a\" + \"b\"; }", "if false { } else { say \"ab\"; }"},
		{"if nb { } else if 1 == 2 { let z = 2 * 2; } else { let z = !true; }", "if nb { } else if false { let z = 4; } else { let z = false; }"},
		{"while 1 == 1 { nt = nt + (\"a\" + \"b\"); break; }", "while true { nt = nt + \"ab\"; break; }"},
		{"while false { continue; }", "while false { continue; }"},
		{"return;", "return;"},
		{"fail \"a\" + \"b\";", "fail \"ab\";"},
		{"write \"a\" + \"b\", \"c\" + \"d\";", "write \"ab\", \"cd\";"},
		{"write nt, \"c\" + \"d\";", "write nt, \"cd\";"},
		{"say \"a\" + \"b\";", "say \"ab\";"},
		{"main();", "main();"},
		{"f(1u8 + 1u8, nc, nd, -ne, nf, ng, -nh, 2 * 3);", "f(2u8, nc, nd, -ne, nf, ng, -nh, 6);"},
		{"let z = main() + (\"a\" + \"b\");", "let z = main() + \"ab\";"},
		{"let z = true && main() == \"a\" + \"b\";", "let z = main() == \"ab\";"},
		{"let z = 1; let y = z + 1; ni = y * (1 + 1);", "let z = 1; let y = z + 1; ni = y * 2;"},
		{"", ""},
	} {
		wantFolded(t, amongNamesRead(t, c.statements), amongNamesRead(t, c.want))
	}
	wantFolded(t, parsed(t, "fn main() -> text { return \"a\" + f(2 + 3); } fn f(a i64) -> text { return dec(a + (2 - 1)); }"),
		parsed(t, "fn main() -> text { return \"a\" + f(5); } fn f(a i64) -> text { return dec(a + 1); }"))
}

// foldSamples are the values of a type at which something turns, but those that no literal has.
func foldSamples(typ int) []impl.Value {
	var list []impl.Value
	for _, v := range edgeValues(typ) {
		if isLiteralValue(v) {
			list = append(list, v)
		}
	}
	return list
}

// wantEach folds an E of literals, and the same E with a name for each of its kids in turn.
func wantEach(t *testing.T, make func(kids ...twig) twig, args []impl.Value, v impl.Value, word string) bool {
	t.Helper()
	var kids []twig
	for _, arg := range args {
		kids = append(kids, literalTwig(arg))
	}
	e := xLet("z", make(kids...))
	want := e
	folds := word == "" && isLiteralValue(v)
	if folds {
		want = xLet("z", literalTwig(v))
	}
	checkFold(t, amongNames(e), amongNames(want))
	for i, arg := range args {
		some := slices.Clone(kids)
		some[i] = xName(foldNames[arg.Type])
		stays := amongNames(xLet("z", make(some...)))
		checkFold(t, stays, stays)
	}
	return folds
}

// Each Op and each word with literals of each type that it takes.
func TestFoldOps(t *testing.T) {
	folds, stays := 0, 0
	each := func(make func(kids ...twig) twig, args []impl.Value, v impl.Value, word string) {
		t.Helper()
		if word == "type" {
			return
		}
		if wantEach(t, make, args, v, word) {
			folds++
		} else {
			stays++
		}
	}
	for typ := impl.TypeBool; typ <= impl.TypeI64; typ++ {
		samples := foldSamples(typ)
		for i, a := range samples {
			for op := impl.OpNeg; op <= impl.OpInv; op++ {
				v, word := modelUnary(op, a)
				each(func(kids ...twig) twig { return xUn(op, kids[0]) }, []impl.Value{a}, v, word)
			}
			for to := impl.TypeU8; to <= impl.TypeI64; to++ {
				v, word := modelConvert(a, to)
				each(func(kids ...twig) twig { return xConv(to, kids[0]) }, []impl.Value{a}, v, word)
			}
			for op := impl.BuiltLen; op <= impl.BuiltNum; op++ {
				v, word := modelBuilt(op, []impl.Value{a})
				each(func(kids ...twig) twig { return xBuilt(op, kids...) }, []impl.Value{a}, v, word)
			}
			for j, b := range samples {
				for op := impl.OpSame; op <= impl.OpRight; op++ {
					// All pairs would take long; of the greater types each Op still meets each a and each b.
					if len(samples) > 15 && (i+j+op)%15 != 0 {
						continue
					}
					v, word := modelBinary(op, a, b)
					each(func(kids ...twig) twig { return xBin(op, kids[0], kids[1]) }, []impl.Value{a, b}, v, word)
				}
			}
		}
	}
	for _, a := range []string{"", "a", "ab", "abc"} {
		for i := range int64(5) {
			v, word := modelBuilt(impl.BuiltAt, []impl.Value{vText(a), vI64(i)})
			each(func(kids ...twig) twig { return xBuilt(impl.BuiltAt, kids...) }, []impl.Value{vText(a), vI64(i)}, v, word)
			for j := range int64(5) {
				args := []impl.Value{vText(a), vI64(i), vI64(j)}
				v, word := modelBuilt(impl.BuiltCut, args)
				each(func(kids ...twig) twig { return xBuilt(impl.BuiltCut, kids...) }, args, v, word)
			}
		}
		for _, b := range []string{"", "a", "b", "c", "bc", "abcd"} {
			args := []impl.Value{vText(a), vText(b)}
			v, word := modelBuilt(impl.BuiltFind, args)
			each(func(kids ...twig) twig { return xBuilt(impl.BuiltFind, kids...) }, args, v, word)
		}
	}
	if folds < 1000 || stays < 500 {
		t.Errorf("%d folded, %d stayed", folds, stays)
	}
}

// The limits of what a tree may have, met exactly.
func TestFoldLimits(t *testing.T) {
	a, b := xText(xs(1500)), xText(xs(1501))
	wantFolded(t, amongNames(xSay(xBin(impl.OpAdd, a, a))), amongNames(xSay(xText(xs(3000)))))
	stays := amongNames(xSay(xBin(impl.OpAdd, a, b)))
	wantFolded(t, stays, stays)
	// Program, function, block and let stand above the first of these.
	deep := func(bottom twig, levels int) impl.Tree {
		for range levels {
			bottom = xUn(impl.OpInv, bottom)
		}
		return amongNames(xLet("z", bottom))
	}
	wantFolded(t, deep(xInt(impl.TypeU8, 3), 56), amongNames(xLet("z", xInt(impl.TypeU8, 3))))
	wantFolded(t, deep(xName("na"), 56), deep(xName("na"), 56))
	wantFolded(t, deep(xNum(3), 56), deep(xNum(3), 56))
	wantFolded(t, deep(xInt(impl.TypeU8, 3), 57), impl.Tree{})

	// As many statements of four nodes as there is room for, and those of one to fill it up.
	sum := xSay(xBin(impl.OpAdd, xText("a"), xText("b")))
	room := impl.MaxNodes - len(amongNames().Nodes)
	full := append(slices.Repeat([]twig{sum}, room/4), slices.Repeat([]twig{xReturn()}, room%4)...)
	tree := amongNames(full...)
	if len(tree.Nodes) != impl.MaxNodes {
		t.Fatalf("%d nodes", len(tree.Nodes))
	}
	folded := append(slices.Repeat([]twig{xSay(xText("ab"))}, room/4), slices.Repeat([]twig{xReturn()}, room%4)...)
	checkFold(t, tree, amongNames(folded...))
	checkFold(t, amongNames(append(full, xReturn())...), impl.Tree{})
}

// Trees that do not fit are folded to nothing, also where what does not fit would be left out.
func TestFoldUnfit(t *testing.T) {
	for _, src := range []string{
		"fn f() { }",
		"fn main() { }",
		"fn main() -> text { }",
		"fn main() -> text { return 1; }",
		inMain("let a = 1 + 1u8;"),
		inMain("let a = 1 + 1; let a = 2;"),
		inMain("let a = -true;"),
		inMain("let a = u8(true);"),
		inMain("let a = len(1);"),
		inMain("let a = false && 1;"),
		inMain("let a = false && 1 == \"\";"),
		inMain("let a = true || b;"),
		inMain("let a = true || f();"),
		inMain("let a = 1 && true;"),
		inMain("say 1 + 1;"),
		inMain("if 1 { }"),
		inMain("break;"),
		withMain("fn f() { } fn f() { }"),
	} {
		tree := parsed(t, src)
		if impl.Check(tree) == (impl.Fault{}) {
			t.Fatalf("%q fits", src)
		}
		if got := impl.Fold(tree); got.Nodes != nil {
			t.Errorf("%q is folded to %q", src, impl.Print(got))
		}
	}
	right := amongNames(xSay(xText("a")))
	wrong := []impl.Tree{{}, {Nodes: []impl.Node{}}, {Nodes: []impl.Node{{}}}, {Nodes: right.Nodes[:len(right.Nodes)-1]}, {Nodes: right.Nodes[1:]}}
	for i := range right.Nodes {
		bent := slices.Clone(right.Nodes)
		bent[i].Kids += 1 << 40
		wrong = append(wrong, impl.Tree{Nodes: bent})
		bent = slices.Clone(right.Nodes)
		bent[i].Kind = -1
		wrong = append(wrong, impl.Tree{Nodes: bent})
	}
	for _, tree := range wrong {
		if got := impl.Fold(tree); got.Nodes != nil {
			t.Errorf("%+v is folded to %q", tree, impl.Print(got))
		}
	}
}

// What is answered is new memory, the texts included.
func TestFoldOwnMemory(t *testing.T) {
	source := strings.Repeat("name", 3)
	tree := amongNames(
		xLet(source[:5], xText(source)),
		xSay(xBuilt(impl.BuiltCut, xText(source), xNum(1), xNum(9))),
		xSay(xBin(impl.OpAdd, xText(source), xText(""))),
		xSay(xBin(impl.OpAdd, xName(source[:5]), xText(""))),
		xDo(xCall("main")))
	roomy := append(make([]impl.Node, 0, 500), tree.Nodes...)
	tree.Nodes = roomy
	got := impl.Fold(tree)
	where := func(s string) uintptr { return uintptr(unsafe.Pointer(unsafe.StringData(s))) }
	var ends [][2]uintptr
	for _, n := range got.Nodes {
		if n.Text == "" {
			continue
		}
		ends = append(ends, [2]uintptr{where(n.Text), where(n.Text) + uintptr(len(n.Text))})
	}
	for _, n := range tree.Nodes {
		for _, end := range ends {
			if n.Text != "" && where(n.Text) < end[1] && end[0] < where(n.Text)+uintptr(len(n.Text)) {
				t.Fatalf("%q is shared", n.Text)
			}
		}
	}
	want := slices.Clone(got.Nodes)
	for i := range roomy[:cap(roomy)] {
		roomy[:cap(roomy)][i] = impl.Node{Kind: 99}
	}
	if !slices.Equal(got.Nodes, want) {
		t.Error("the answer changed with the argument")
	}
	got.Nodes = append(got.Nodes, impl.Node{Kind: 98})
	if slices.ContainsFunc(roomy[:cap(roomy)], func(n impl.Node) bool { return n.Kind != 99 }) {
		t.Error("the argument changed with the answer")
	}
}
