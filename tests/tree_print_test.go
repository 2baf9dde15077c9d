package tests

import (
	"strings"
	"testing"

	"loop.example/kilnmill/impl"
)

func wantPrint(t *testing.T, root twig, want string) {
	t.Helper()
	tree := treeOf(root)
	if got := impl.Print(tree); got != want {
		t.Errorf("%q, want %q", got, want)
	}
	if got, f := impl.Parse(want); f != (impl.Fault{}) || !same(got, tree) {
		t.Errorf("%q is read as %+v, %+v", want, got, f)
	}
}

func wantLine(t *testing.T, statement twig, want string) {
	t.Helper()
	wantPrint(t, xMain(statement), "fn f() {\n  "+want+"\n}\n")
}

func TestPrintLines(t *testing.T) {
	a, b, c := xName("a"), xName("b"), xName("c")
	sum := xBin(impl.OpAdd, a, b)
	wantLine(t, xLet("x", xBin(impl.OpAdd, a, xBin(impl.OpMul, b, xUn(impl.OpNeg, c)))), "let x = a + (b * -c);")
	wantLine(t, xWrite(xText("a"), xCall("f", xName("x"), xInt(impl.TypeU8, 1))), `write "a", f(x, 1u8);`)
	wantLine(t, xSet("x", sum), "x = a + b;")
	wantLine(t, xReturn(), "return;")
	wantLine(t, xReturn(sum), "return a + b;")
	wantLine(t, xBreak(), "break;")
	wantLine(t, xContinue(), "continue;")
	wantLine(t, xFail(sum), "fail a + b;")
	wantLine(t, xSay(sum), "say a + b;")
	wantLine(t, xWrite(sum, sum), "write a + b, a + b;")
	wantLine(t, xDo(xCall("g")), "g();")
	wantLine(t, xDo(xCall("g", sum, a, xCall("g"))), "g(a + b, a, g());")
	wantLine(t, xSay(xBool(1)), "say true;")
	wantLine(t, xSay(xBool(0)), "say false;")
	wantLine(t, xSay(xConv(impl.TypeI16, sum)), "say i16(a + b);")
	wantLine(t, xSay(xConv(impl.TypeI16, xUn(impl.OpNeg, a))), "say i16(-a);")
	wantLine(t, xSay(xUn(impl.OpNeg, xConv(impl.TypeU64, a))), "say -u64(a);")
	wantLine(t, xSay(xBuilt(impl.BuiltCut, sum, b, xBuilt(impl.BuiltArg))), "say cut(a + b, b, arg());")
	wantLine(t, xSay(xUn(impl.OpNeg, xUn(impl.OpNeg, a))), "say --a;")
	wantLine(t, xSay(xUn(impl.OpNot, xUn(impl.OpInv, xUn(impl.OpNot, a)))), "say !~!a;")
	wantLine(t, xSay(xBin(impl.OpSub, a, xUn(impl.OpNeg, xNum(1)))), "say a - -1;")
	wantLine(t, xSay(xBin(impl.OpAnd, xUn(impl.OpNot, a), xCall("g", sum))), "say !a && g(a + b);")
}

// Brackets stand around a NodeBin below a NodeBin or a NodeUn, whatever their ranks, and nowhere else.
func TestPrintBrackets(t *testing.T) {
	a, b, c := xName("a"), xName("b"), xName("c")
	for x := impl.OpOr; x <= impl.OpRight; x++ {
		m := " " + binMarks[x] + " "
		one := xBin(x, a, b)
		for y := impl.OpOr; y <= impl.OpRight; y++ {
			n := " " + binMarks[y] + " "
			wantLine(t, xSay(xBin(y, one, c)), "say (a"+m+"b)"+n+"c;")
			wantLine(t, xSay(xBin(y, c, one)), "say c"+n+"(a"+m+"b);")
			wantLine(t, xSay(xBin(y, one, one)), "say (a"+m+"b)"+n+"(a"+m+"b);")
		}
		for y := impl.OpNeg; y <= impl.OpInv; y++ {
			wantLine(t, xSay(xUn(y, one)), "say "+unMarks[y]+"(a"+m+"b);")
			wantLine(t, xSay(xBin(x, xUn(y, a), xUn(y, b))), "say "+unMarks[y]+"a"+m+unMarks[y]+"b;")
		}
		wantLine(t, xSay(xCall("g", one)), "say g(a"+m+"b);")
		wantLine(t, xSay(xBin(x, xCall("g", one), xConv(impl.TypeU8, one))), "say g(a"+m+"b)"+m+"u8(a"+m+"b);")
	}
}

func TestPrintNumbers(t *testing.T) {
	for _, c := range greatestNumbers {
		w := typeWords[c.typ]
		if c.typ == impl.TypeI64 {
			w = ""
		}
		wantLine(t, xSay(xInt(c.typ, c.n)), "say "+c.most+w+";")
		wantLine(t, xSay(xInt(c.typ, 0)), "say 0"+w+";")
		wantLine(t, xSay(xInt(c.typ, 120)), "say 120"+w+";")
	}
	wantLine(t, xSay(xInt(impl.TypeU64, -9223372036854775808)), "say 9223372036854775808u64;")
}

func TestPrintTexts(t *testing.T) {
	wantLine(t, xSay(xText("")), `say "";`)
	wantLine(t, xSay(xText("a\"\\\n\x00\x1f ~\x7f\xff\xab#\u00e9")), `say "a\22\5c\0a\00\1f ~\7f\ff\ab#\c3\a9";`)
	for b := range 256 {
		s := string([]byte{byte(b)})
		want := s
		if b < 32 || b > 126 || b == '"' || b == '\\' {
			const digits = "0123456789abcdef"
			want = "\\" + string([]byte{digits[b/16], digits[b%16]})
		}
		wantLine(t, xSay(xText("x"+s+s)), `say "x`+want+want+`";`)
	}
}

func TestPrintBlocks(t *testing.T) {
	a, b := xName("a"), xBin(impl.OpSame, xName("b"), xNum(1))
	say := xSay(a)
	wantPrint(t, xMain(), "fn f() {\n}\n")
	wantLine(t, xIf(a, xBlock()), "if a {\n  }")
	wantLine(t, xIf(a, xBlock(), xBlock()), "if a {\n  } else {\n  }")
	wantLine(t, xIf(b, xBlock(say), xBlock(say, say)), "if b == 1 {\n    say a;\n  } else {\n    say a;\n    say a;\n  }")
	wantLine(t, xIf(a, xBlock(), xIf(b, xBlock(say))), "if a {\n  } else if b == 1 {\n    say a;\n  }")
	wantLine(t, xIf(a, xBlock(), xIf(b, xBlock(), xBlock(say))), "if a {\n  } else if b == 1 {\n  } else {\n    say a;\n  }")
	wantLine(t, xIf(a, xBlock(), xBlock(xIf(b, xBlock(), xBlock(say)))), "if a {\n  } else {\n    if b == 1 {\n    } else {\n      say a;\n    }\n  }")
	wantLine(t, xIf(a, xBlock(xIf(b, xBlock(say))), xBlock()), "if a {\n    if b == 1 {\n      say a;\n    }\n  } else {\n  }")
	wantLine(t, xWhile(b, xBlock()), "while b == 1 {\n  }")
	wantLine(t, xWhile(a, xBlock(xWhile(a, xBlock(xBreak())), xContinue())), "while a {\n    while a {\n      break;\n    }\n    continue;\n  }")
}

func TestPrintFunctions(t *testing.T) {
	wantPrint(t, xProgram(
		xFn("f", impl.TypeNone, xParam("a", impl.TypeText), xBlock()),
		xFn("g_1", impl.TypeBool, xParam("a", impl.TypeU8), xParam("bc", impl.TypeI64), xBlock(xReturn(xBool(1)))),
		xFn("main", impl.TypeText, xBlock())),
		"fn f(a text) {\n}\nfn g_1(a u8, bc i64) -> bool {\n  return true;\n}\nfn main() -> text {\n}\n")
	for typ := impl.TypeBool; typ <= impl.TypeI64; typ++ {
		w := typeWords[typ]
		wantPrint(t, xProgram(xFn("f", typ, xParam("a", typ), xBlock())), "fn f(a "+w+") -> "+w+" {\n}\n")
	}
	wantPrint(t, allKinds(), impl.Print(treeOf(allKinds())))
}

// A text of MaxSrc bytes is given, one of one byte more is not.
func TestPrintSize(t *testing.T) {
	const frame = len("fn f() {\n}\n")
	const line = len("  say \"\";\n")
	for _, more := range []int{-1, 0, 1, 2} {
		left := impl.MaxSrc + more - frame
		var body []twig
		for left > 0 {
			size := min(left-line, impl.MaxText)
			if rest := left - line - size; rest > 0 && rest < line {
				size -= line
			}
			body = append(body, xSay(xText(strings.Repeat("x", size))))
			left -= line + size
		}
		tree := treeOf(xMain(body...))
		if !impl.ValidTree(tree) {
			t.Fatal("not valid")
		}
		got := impl.Print(tree)
		if more > 0 && got != "" || more <= 0 && len(got) != impl.MaxSrc+more {
			t.Errorf("%d more: %d bytes", more, len(got))
		}
		if again, f := impl.Parse(got); more <= 0 && (f != (impl.Fault{}) || !same(again, tree)) {
			t.Errorf("%d more: %+v", more, f)
		}
	}
	// The size of the text counts, not that of what is told by it.
	wide := xSay(xText(strings.Repeat("\n", impl.MaxText)))
	if got := impl.Print(treeOf(xMain(wide))); len(got) != frame+line+3*impl.MaxText {
		t.Errorf("%d bytes", len(got))
	}
	if got := impl.Print(treeOf(xMain(wide, wide))); got != "" {
		t.Errorf("%d bytes", len(got))
	}
	deep := xBlock()
	for range 28 {
		deep = xBlock(xWhile(xName("a"), deep))
	}
	big := xProgram(xFn("f", 0, deep))
	for range impl.MaxFns - 1 {
		big.kids = append(big.kids, xFn("f", 0, deep))
	}
	big = xProgram(big.kids...)
	if !impl.ValidTree(treeOf(big)) || impl.Print(treeOf(big)) != "" {
		t.Error("a tree with much in front of its lines")
	}
}
