package tests

import (
	"fmt"
	"reflect"
	"slices"
	"strconv"
	"strings"
	"testing"

	"loop.example/kilnmill/impl"
)

// insWords are the instructions by their Op; a push is written as what it pushes.
var insWords = strings.Fields("- - load store drop un bin conv built call jump unless return fail write say step")

// writtenIns writes an instruction as the tables below have it.
func writtenIns(ins impl.Ins) string {
	if ins.Op < 1 || ins.Op > 16 || ins.Op != impl.InsPush && (ins.N != 0 || ins.Text != "") {
		return fmt.Sprintf("%+v", ins)
	}
	words := [][]string{impl.InsUn: unMarks, impl.InsBin: binMarks, impl.InsConv: typeWords, impl.InsBuilt: builtWords, impl.InsStep: nil}[ins.Op]
	switch {
	case ins.Op == impl.InsPush:
		return writtenValue(impl.Value{Type: ins.A, N: ins.N, Text: ins.Text})
	case ins.A == 0 && usesOfA[ins.Op] == "no":
		return insWords[ins.Op]
	case ins.A >= 0 && ins.A < len(words):
		return insWords[ins.Op] + " " + words[ins.A]
	}
	return insWords[ins.Op] + " " + strconv.Itoa(ins.A)
}

// writtenValue writes a value as a program does, but for the type of an i64.
func writtenValue(v impl.Value) string {
	switch {
	case v == vBool(true):
		return "true"
	case v == vBool(false):
		return "false"
	case v == vText(v.Text):
		return quoted(v.Text)
	case v == vI64(v.N):
		return strconv.FormatInt(v.N, 10)
	case v == vInt(impl.TypeU64, v.N):
		return strconv.FormatUint(uint64(v.N), 10) + "u64"
	case v.Type > impl.TypeText && v.Type < impl.TypeI64 && v.Text == "":
		return strconv.FormatInt(v.N, 10) + typeWords[v.Type]
	}
	return fmt.Sprintf("%+v", v)
}

func writtenList(list []impl.Ins) string {
	var all []string
	for at, ins := range list {
		all = append(all, fmt.Sprint(at, ": ", writtenIns(ins)))
	}
	return strings.Join(all, "\n")
}

func writtenCode(c impl.Code) string {
	var all []string
	for _, fn := range c.Fns {
		all = append(all, fmt.Sprintf("%s %v %d, %d slots\n%s", fn.Name, fn.Params, fn.Result, fn.Slots, writtenList(fn.Ins)))
	}
	return strings.Join(all, "\n")
}

// linesOf has an instruction a line, each with its place, where several stand on one with `;` between; a line must begin with the place of its first one.
func linesOf(t *testing.T, want string) string {
	t.Helper()
	var all []string
	for _, line := range strings.Split(strings.TrimSpace(want), "\n") {
		place, list, _ := strings.Cut(strings.TrimSpace(line), ": ")
		if place != strconv.Itoa(len(all)) {
			t.Fatalf("the test itself: place %d in %s", len(all), line)
		}
		for _, ins := range strings.Split(list, "; ") {
			all = append(all, fmt.Sprint(len(all), ": ", ins))
		}
	}
	return strings.Join(all, "\n")
}

// fnNamed is the code of a function of a tree.
func fnNamed(t *testing.T, tree impl.Tree, name string) impl.Fn {
	t.Helper()
	c := checkCompile(t, tree)
	for _, fn := range c.Fns {
		if fn.Name == name {
			return fn
		}
	}
	t.Fatalf("no %s: %s", name, writtenCode(c))
	return impl.Fn{}
}

// wantMade: the function f of a program has this many slots and these instructions.
func wantMade(t *testing.T, src string, slots int, want string) {
	t.Helper()
	fn := fnNamed(t, parsed(t, src), "f")
	if got := writtenList(fn.Ins); fn.Slots != slots || got != linesOf(t, want) {
		t.Errorf("%s\n%d slots\n%s\nwant %d slots\n%s", src, fn.Slots, got, slots, linesOf(t, want))
	}
}

// inF is a program whose f does these statements; b and d are bools in slots 0 and 1.
func inF(statements string) string {
	return withMain("fn f(b bool, d bool) { " + statements + " } fn g() { } fn h() -> i64 { return 1; }")
}

// ofF is what such an f is made of, with InsReturn 0 at its end.
func ofF(t *testing.T, statements string, want string) {
	t.Helper()
	wantMade(t, inF(statements), 2, want)
}

// giving is a program whose f returns an E of that type; b, c, d are bools in slots 0, 1, 2, n, m are i64 in 3, 4, s, r texts in 5, 6, x an u8 in 7.
func giving(typ, e string) string {
	return withMain("fn f(b bool, c bool, d bool, n i64, m i64, s text, r text, x u8) -> " + typ + " { return " + e + "; }")
}

// ofE is what an E is made of, between InsStep and InsReturn 1; places count from the InsStep on.
func ofE(t *testing.T, typ, e string, want string) {
	t.Helper()
	wantMade(t, giving(typ, e), 8, "0: step\n"+strings.TrimSpace(want)+"; return 1")
}

func TestCompileLiterals(t *testing.T) {
	for _, c := range [][2]string{
		{"i64", "0"}, {"i64", "1"}, {"i64", "9223372036854775807"}, {"bool", "true"}, {"bool", "false"},
		{"u8", "0u8"}, {"u8", "255u8"}, {"u16", "65535u16"}, {"u32", "4294967295u32"}, {"u64", "18446744073709551615u64"}, {"u64", "9223372036854775808u64"},
		{"i8", "127i8"}, {"i16", "32767i16"}, {"i32", "2147483647i32"},
		{"text", `""`}, {"text", `"a b"`}, {"text", `"\22\5c\00\0a\ff"`}, {"text", `"` + xs(3000) + `"`},
	} {
		ofE(t, c[0], c[1], "1: "+c[1])
	}
	fn := fnNamed(t, parsed(t, giving("u64", "18446744073709551615u64")), "f")
	if want := (impl.Ins{Op: 1, A: impl.TypeU64, N: -1}); fn.Ins[1] != want {
		t.Errorf("%+v, want %+v", fn.Ins[1], want)
	}
	fn = fnNamed(t, parsed(t, giving("text", `"\ff\00"`)), "f")
	if want := (impl.Ins{Op: 1, A: impl.TypeText, Text: "\xff\x00"}); fn.Ins[1] != want {
		t.Errorf("%+v, want %+v", fn.Ins[1], want)
	}
	fn = fnNamed(t, parsed(t, giving("bool", "true")), "f")
	if want := (impl.Ins{Op: 1, A: impl.TypeBool, N: 1}); fn.Ins[1] != want {
		t.Errorf("%+v, want %+v", fn.Ins[1], want)
	}
}

func TestCompileNames(t *testing.T) {
	for slot, name := range []string{"b", "c", "d", "n", "m", "s", "r", "x"} {
		typ := []string{"bool", "bool", "bool", "i64", "i64", "text", "text", "u8"}[slot]
		ofE(t, typ, name, "1: load "+strconv.Itoa(slot))
	}
}

func TestCompileMarks(t *testing.T) {
	ofE(t, "i64", "-n", "1: load 3; un -")
	ofE(t, "i64", "~n", "1: load 3; un ~")
	ofE(t, "bool", "!b", "1: load 0; un !")
	ofE(t, "i64", "-~-n", "1: load 3; un -; un ~; un -")
	for _, mark := range binMarks[impl.OpSame:] {
		typ := "i64"
		if slices.Contains(binMarks[impl.OpSame:impl.OpAdd], mark) {
			typ = "bool"
		}
		ofE(t, typ, "n "+mark+" m", "1: load 3; load 4; bin "+mark)
		ofE(t, typ, "m "+mark+" 7", "1: load 4; 7; bin "+mark)
	}
	// Texts and bools have the same instructions.
	ofE(t, "text", "s + r", "1: load 5; load 6; bin +")
	ofE(t, "bool", "s < r", "1: load 5; load 6; bin <")
	ofE(t, "bool", "b != c", "1: load 0; load 1; bin !=")
	ofE(t, "i64", "n + m * 2 - -n", "1: load 3; load 4; 2; bin *; bin +; load 3; un -; bin -")
	ofE(t, "i64", "n - (m - (n - m))", "1: load 3; load 4; load 3; load 4; bin -; bin -; bin -")
	ofE(t, "bool", "!(n < m) == c", "1: load 3; load 4; bin <; un !; load 1; bin ==")
	// Nothing is folded.
	ofE(t, "i64", "1 + 2 * 3", "1: 1; 2; 3; bin *; bin +")
	ofE(t, "i64", "1 / 0", "1: 1; 0; bin /")
}

func TestCompileConvs(t *testing.T) {
	for typ := impl.TypeU8; typ <= impl.TypeI64; typ++ {
		word := typeWords[typ]
		ofE(t, word, word+"(n)", "1: load 3; conv "+word)
		ofE(t, word, word+"("+word+"(x))", "1: load 7; conv "+word+"; conv "+word)
	}
	ofE(t, "u8", "u8(i64(x) + n)", "1: load 7; conv i64; load 3; bin +; conv u8")
}

func TestCompileBuilts(t *testing.T) {
	for _, c := range [][3]string{
		{"text", "read(s)", "load 5"}, {"bool", "has(s)", "load 5"}, {"text", "list(s)", "load 5"}, {"text", "tool(s, r)", "load 5; load 6"},
		{"i64", "len(s)", "load 5"}, {"u8", "at(s, n)", "load 5; load 3"}, {"text", "cut(s, n, m)", "load 5; load 3; load 4"},
		{"i64", "find(s, r)", "load 5; load 6"}, {"text", "chr(x)", "load 7"}, {"text", "dec(n)", "load 3"}, {"text", "dec(x)", "load 7"}, {"i64", "num(s)", "load 5"},
	} {
		word, _, _ := strings.Cut(c[1], "(")
		ofE(t, c[0], c[1], "1: "+c[2]+"; built "+word)
	}
	ofE(t, "text", "arg()", "1: built arg")
	ofE(t, "text", "cut(read(s), len(r), find(r, arg()))", "1: load 5; built read; load 6; built len; load 6; built arg; built find; built cut")
}

func TestCompileOrAnd(t *testing.T) {
	ofE(t, "bool", "b || c", `
		1: load 0; unless 5; true; jump 6
		5: load 1`)
	ofE(t, "bool", "b && c", `
		1: load 0; unless 5; load 1; jump 6
		5: false`)
	// As the first kid.
	ofE(t, "bool", "b || c || d", `
		1: load 0; unless 5; true; jump 6
		5: load 1
		6: unless 9; true; jump 10
		9: load 2`)
	ofE(t, "bool", "b && c && d", `
		1: load 0; unless 5; load 1; jump 6
		5: false
		6: unless 9; load 2; jump 10
		9: false`)
	ofE(t, "bool", "(b || c) && d", `
		1: load 0; unless 5; true; jump 6
		5: load 1
		6: unless 9; load 2; jump 10
		9: false`)
	ofE(t, "bool", "b && c || d", `
		1: load 0; unless 5; load 1; jump 6
		5: false
		6: unless 9; true; jump 10
		9: load 2`)
	// As the second kid.
	ofE(t, "bool", "b || (c || d)", `
		1: load 0; unless 5; true; jump 10
		5: load 1; unless 9; true; jump 10
		9: load 2`)
	ofE(t, "bool", "b && (c && d)", `
		1: load 0; unless 9; load 1; unless 7; load 2; jump 8
		7: false
		8: jump 10
		9: false`)
	ofE(t, "bool", "b || c && d", `
		1: load 0; unless 5; true; jump 10
		5: load 1; unless 9; load 2; jump 10
		9: false`)
	ofE(t, "bool", "b && (c || d)", `
		1: load 0; unless 9; load 1; unless 7; true; jump 8
		7: load 2
		8: jump 10
		9: false`)
	// As both.
	ofE(t, "bool", "b && c || (c || d)", `
		1: load 0; unless 5; load 1; jump 6
		5: false
		6: unless 9; true; jump 14
		9: load 1; unless 13; true; jump 14
		13: load 2`)
	ofE(t, "bool", "(b || c) && (d && !b)", `
		1: load 0; unless 5; true; jump 6
		5: load 1
		6: unless 14; load 2; unless 12; load 0; un !; jump 13
		12: false
		13: jump 15
		14: false`)
	// Within others, and with literals: nothing is folded.
	ofE(t, "bool", "!(b || c) == (true && false)", `
		1: load 0; unless 5; true; jump 6
		5: load 1
		6: un !; true; unless 11; false; jump 12
		11: false
		12: bin ==`)
	ofE(t, "bool", "n < m || s == r + r", `
		1: load 3; load 4; bin <; unless 7; true; jump 12
		7: load 5; load 6; load 6; bin +; bin ==`)
}

func TestCompileIf(t *testing.T) {
	ofF(t, "if b { }", `0: step; load 0; unless 3; return 0`)
	ofF(t, "if b { g(); }", `
		0: step; load 0; unless 5; step; call 1
		5: return 0`)
	ofF(t, "if b { g(); } say \"x\";", `
		0: step; load 0; unless 5; step; call 1
		5: step; "x"; say; return 0`)
	ofF(t, "if b { } else { }", `
		0: step; load 0; unless 4; jump 4
		4: return 0`)
	ofF(t, "if b { g(); } else { }", `
		0: step; load 0; unless 6; step; call 1; jump 6
		6: return 0`)
	ofF(t, "if b { } else { g(); }", `
		0: step; load 0; unless 4; jump 6
		4: step; call 1
		6: return 0`)
	ofF(t, "if b { g(); } else { say \"x\"; say \"y\"; } g();", `
		0: step; load 0; unless 6; step; call 1; jump 12
		6: step; "x"; say; step; "y"; say
		12: step; call 1; return 0`)
	// An if behind else has a step of its own.
	ofF(t, "if b { g(); } else if d { return; }", `
		0: step; load 0; unless 6; step; call 1; jump 11
		6: step; load 1; unless 11; step; return 0
		11: return 0`)
	ofF(t, "if b { g(); } else if d { return; } else { fail \"x\"; } say \"y\";", `
		0: step; load 0; unless 6; step; call 1; jump 15
		6: step; load 1; unless 12; step; return 0; jump 15
		12: step; "x"; fail
		15: step; "y"; say; return 0`)
	ofF(t, "if b { } else if d { } else if b { } else { } g();", `
		0: step; load 0; unless 4; jump 12
		4: step; load 1; unless 8; jump 12
		8: step; load 0; unless 12; jump 12
		12: step; call 1; return 0`)
	// Within each other, in the first and in the other block.
	ofF(t, "if b { if d { g(); } else { say \"x\"; } } else { if d { g(); } say \"y\"; }", `
		0: step; load 0; unless 13
		3: step; load 1; unless 9; step; call 1; jump 12
		9: step; "x"; say
		12: jump 21
		13: step; load 1; unless 18; step; call 1
		18: step; "y"; say
		21: return 0`)
	ofF(t, "if b || d { if b && d { g(); } }", `
		0: step; load 0; unless 5; true; jump 6
		5: load 1
		6: unless 16; step; load 0; unless 12; load 1; jump 13
		12: false
		13: unless 16; step; call 1
		16: return 0`)
}

func TestCompileWhile(t *testing.T) {
	ofF(t, "while b { }", `
		0: step
		1: step; load 0; unless 5; jump 1
		5: return 0`)
	ofF(t, "while b { g(); } say \"x\";", `
		0: step
		1: step; load 0; unless 7; step; call 1; jump 1
		7: step; "x"; say; return 0`)
	ofF(t, "while true { break; }", `
		0: step
		1: step; true; unless 7; step; jump 7; jump 1
		7: return 0`)
	ofF(t, "while true { continue; }", `
		0: step
		1: step; true; unless 7; step; jump 1; jump 1
		7: return 0`)
	ofF(t, "while b && d { if b { break; } else { continue; } g(); }", `
		0: step
		1: step; load 0; unless 6; load 1; jump 7
		6: false
		7: unless 19; step; load 0; unless 14; step; jump 19; jump 16
		14: step; jump 1
		16: step; call 1; jump 1
		19: return 0`)
	// What stands behind break and continue is made, too.
	ofF(t, "while b { break; g(); continue; g(); }", `
		0: step
		1: step; load 0; unless 13; step; jump 13; step; call 1; step; jump 1; step; call 1; jump 1
		13: return 0`)
	// Two loops beside each other.
	ofF(t, "while b { break; } while d { continue; break; }", `
		0: step
		1: step; load 0; unless 7; step; jump 7; jump 1
		7: step
		8: step; load 1; unless 16; step; jump 8; step; jump 16; jump 8
		16: return 0`)
}

func TestCompileWhileWithin(t *testing.T) {
	// Those of the outer loop ahead of the inner one, and behind it; those of the inner one within.
	ofF(t, "while b { break; while d { break; continue; } break; continue; }", `
		0: step
		1: step; load 0; unless 20; step; jump 20
		6: step
		7: step; load 1; unless 15; step; jump 15; step; jump 7; jump 7
		15: step; jump 20; step; jump 1; jump 1
		20: return 0`)
	ofF(t, "while b { continue; while d { } continue; }", `
		0: step
		1: step; load 0; unless 14; step; jump 1
		6: step
		7: step; load 1; unless 11; jump 7
		11: step; jump 1; jump 1
		14: return 0`)
	// In an if of the inner loop, and of the outer one.
	ofF(t, "while b { while d { if b { break; } } if d { break; } else { while b { continue; } continue; } }", `
		0: step
		1: step; load 0; unless 30
		4: step
		5: step; load 1; unless 14; step; load 0; unless 13; step; jump 14
		13: jump 5
		14: step; load 1; unless 20; step; jump 30; jump 29
		20: step
		21: step; load 0; unless 27; step; jump 21; jump 21
		27: step; jump 1
		29: jump 1
		30: return 0`)
}

func TestCompileWhileDeep(t *testing.T) {
	// Three loops: each has its own.
	ofF(t, "while b { while d { while b { break; } break; } break; }", `
		0: step
		1: step; load 0; unless 21
		4: step
		5: step; load 1; unless 18
		8: step
		9: step; load 0; unless 15; step; jump 15; jump 9
		15: step; jump 18; jump 5
		18: step; jump 21; jump 1
		21: return 0`)
	ofF(t, "while b { while d { while b { continue; } continue; } continue; }", `
		0: step
		1: step; load 0; unless 21
		4: step
		5: step; load 1; unless 18
		8: step
		9: step; load 0; unless 15; step; jump 9; jump 9
		15: step; jump 5; jump 5
		18: step; jump 1; jump 1
		21: return 0`)
	// A loop in the one of two functions plays no part in the other.
	wantMade(t, withMain("fn g(b bool) { while b { break; } } fn f(b bool) { while b { continue; } }"), 1, `
		0: step
		1: step; load 0; unless 7; step; jump 1; jump 1
		7: return 0`)
}

func TestCompileReturn(t *testing.T) {
	// Without a Type an InsReturn 0 stands behind the block, whatever its end is.
	ofF(t, "", `0: return 0`)
	ofF(t, "return;", `0: step; return 0; return 0`)
	ofF(t, "return; return;", `0: step; return 0; step; return 0; return 0`)
	ofF(t, "fail \"x\";", `0: step; "x"; fail; return 0`)
	ofF(t, "if b { return; } else { return; }", `
		0: step; load 0; unless 6; step; return 0; jump 8
		6: step; return 0
		8: return 0`)
	ofF(t, "while b { return; }", `
		0: step
		1: step; load 0; unless 7; step; return 0; jump 1
		7: return 0`)
	// With one none does.
	ofE(t, "i64", "n", "1: load 3")
	wantMade(t, withMain("fn f() -> i64 { fail \"x\"; }"), 0, `0: step; "x"; fail`)
	wantMade(t, withMain("fn f() -> i64 { return 1; return 2; }"), 0, `0: step; 1; return 1; step; 2; return 1`)
	// A place that nothing leads to may be behind the last instruction.
	wantMade(t, withMain("fn f(b bool) -> i64 { if b { return 1; } else { return 2; } }"), 1, `
		0: step; load 0; unless 7; step; 1; return 1; jump 10
		7: step; 2; return 1`)
	wantMade(t, withMain("fn f(b bool) -> i64 { if b { return 1; } else if !b { fail \"x\"; } else { return 2; } }"), 1, `
		0: step; load 0; unless 7; step; 1; return 1; jump 18
		7: step; load 0; un !; unless 15; step; "x"; fail; jump 18
		15: step; 2; return 1`)
	wantMade(t, withMain("fn f(b bool) -> bool { while true { return b; } return !b; }"), 1, `
		0: step
		1: step; true; unless 8; step; load 0; return 1; jump 1
		8: step; load 0; un !; return 1`)
}

func TestCompileStatements(t *testing.T) {
	ofF(t, "fail \"x\" + \"y\";", `0: step; "x"; "y"; bin +; fail; return 0`)
	ofF(t, "write \"x\", \"y\" + \"z\";", `0: step; "x"; "y"; "z"; bin +; write; return 0`)
	ofF(t, "write \"x\" + \"y\", \"z\";", `0: step; "x"; "y"; bin +; "z"; write; return 0`)
	ofF(t, "say read(\"x\");", `0: step; "x"; built read; say; return 0`)
	ofF(t, "b = d; d = !b;", `0: step; load 1; store 0; step; load 0; un !; store 1; return 0`)
	ofF(t, "b = b || d;", `
		0: step; load 0; unless 5; true; jump 6
		5: load 1
		6: store 0; return 0`)
	// A call alone drops what it gives, if that is something.
	ofF(t, "g();", `0: step; call 1; return 0`)
	ofF(t, "h();", `0: step; call 2; drop; return 0`)
	ofF(t, "f(b, h() == h()); main();", `0: step; load 0; call 2; call 2; bin ==; call 0; step; call 3; drop; return 0`)
	for typ := impl.TypeBool; typ <= impl.TypeI64; typ++ {
		fns := "fn k(p " + typeWords[typ] + ") -> " + typeWords[typ] + " { return p; }"
		wantMade(t, withMain("fn f() { k("+sample[typ]+"); } "+fns), 0, "0: step; "+sample[typ]+"; call 1; drop; return 0")
	}
}

func TestCompileCalls(t *testing.T) {
	// To functions ahead, behind, and to itself; main has a number as all others do.
	src := "fn a() -> i64 { return c() + b(); } fn main() -> text { return dec(a() + c()); } fn b() -> i64 { return b(); } fn c() -> i64 { main(); return 7; }"
	c := checkCompile(t, parsed(t, src))
	want := `a [] 10, 0 slots
0: step
1: call 3
2: call 2
3: bin +
4: return 1
main [] 2, 0 slots
0: step
1: call 0
2: call 3
3: bin +
4: built dec
5: return 1
b [] 10, 0 slots
0: step
1: call 2
2: return 1
c [] 10, 0 slots
0: step
1: call 1
2: drop
3: step
4: 7
5: return 1`
	if got := writtenCode(c); got != want {
		t.Errorf("%s\nwant\n%s", got, want)
	}
	// The kids come in their order, within each other.
	wantMade(t, withMain("fn g(a i64, b text) -> i64 { return a; } fn f(a i64, b text) -> i64 { return g(g(f(a, b), \"x\"), b + b); }"), 2,
		`0: step; load 0; load 1; call 1; "x"; call 0; load 1; load 1; bin +; call 0; return 1`)
	// A name is no function, and a function no name.
	wantMade(t, withMain("fn f(f i64, main text) -> i64 { let g = f; return f(g, main) + f; } fn g() { }"), 3,
		`0: step; load 0; store 2; step; load 2; load 1; call 0; load 0; bin +; return 1`)
}

func TestCompileFns(t *testing.T) {
	// Name, Params and Result.
	src := "fn " + xs(30) + "(a bool, b text, c u8, d u16, e u32, f u64, g i8, h i16) { } fn i(a i32, b i64) -> i64 { return b; } fn main() -> text { return \"\"; }"
	c := checkCompile(t, parsed(t, src))
	want := []impl.Fn{
		cFn(xs(30), []int{1, 2, 3, 4, 5, 6, 7, 8}, impl.TypeNone, 8, cOp(impl.InsReturn, 0)),
		cFn("i", []int{9, 10}, impl.TypeI64, 2, cOp(impl.InsStep, 0), cOp(impl.InsLoad, 1), cOp(impl.InsReturn, 1)),
		cMain(0, cOp(impl.InsStep, 0), cPush(vText("")), cOp(impl.InsReturn, 1)),
	}
	if !sameCode(c, impl.Code{Fns: want}) {
		t.Errorf("%+v", c)
	}
	main, body := xFn("main", impl.TypeText, xBlock(xReturn(xText("")))), xBlock(xFail(xText("")))
	for typ := impl.TypeNone; typ <= impl.TypeI64; typ++ {
		fn := fnNamed(t, treeOf(xProgram(main, xFn("f", typ, body))), "f")
		if fn.Result != typ || len(fn.Params) != 0 {
			t.Errorf("%+v", fn)
		}
	}
}

func TestCompileSlots(t *testing.T) {
	slots := func(params, statements string, count int, want string) {
		t.Helper()
		wantMade(t, withMain("fn f("+params+") { "+statements+" }"), count, want)
	}
	slots("", "", 0, "0: return 0")
	slots("a i64", "", 1, "0: return 0")
	slots("a i64, b bool, c text, d u8, e i64, g i64, h i64, i i64", "", 8, "0: return 0")
	slots("", "let a = 1;", 1, "0: step; 1; store 0; return 0")
	slots("", "let a = 1; let b = a; let c = b;", 3, "0: step; 1; store 0; step; load 0; store 1; step; load 1; store 2; return 0")
	slots("p i64, q i64", "let a = q; a = p;", 3, "0: step; load 1; store 2; step; load 0; store 2; return 0")
	// Blocks beside each other use a slot again, with another type, too.
	slots("p bool", "if p { let a = 1; a = a; } else { let b = \"x\"; b = b; let c = p; } let d = 2u8;", 3, `
		0: step; load 0; unless 10
		3: step; 1; store 1; step; load 1; store 1; jump 19
		10: step; "x"; store 1; step; load 1; store 1; step; load 0; store 2
		19: step; 2u8; store 1; return 0`)
	slots("p bool", "while p { let a = 1; let b = a; } while p { let a = \"x\"; } let a = true; let b = \"y\"; let c = 3;", 4, `
		0: step
		1: step; load 0; unless 11; step; 1; store 1; step; load 1; store 2; jump 1
		11: step
		12: step; load 0; unless 19; step; "x"; store 1; jump 12
		19: step; true; store 1; step; "y"; store 2; step; 3; store 3; return 0`)
	// Blocks within each other: those of the blocks around are visible, what stands behind the block is not yet.
	slots("", "let a = 1; if true { let b = 2; if true { let c = 3; a = c; } let d = b; } let e = a;", 3, `
		0: step; 1; store 0
		3: step; true; unless 21
		6: step; 2; store 1
		9: step; true; unless 18; step; 3; store 2; step; load 2; store 0
		18: step; load 1; store 2
		21: step; load 0; store 1; return 0`)
}

func TestCompileSlotsAgain(t *testing.T) {
	slots := func(statements string, count int, want string) {
		t.Helper()
		wantMade(t, withMain("fn f(p bool) { "+statements+" }"), count, want)
	}
	// A name that was visible may come again, in another slot and with another type.
	slots("if p { let a = 1; a = 2; } let b = p; let a = \"x\"; a = \"y\";", 3, `
		0: step; load 0; unless 9; step; 1; store 1; step; 2; store 1
		9: step; load 0; store 1; step; "x"; store 2; step; "y"; store 2; return 0`)
	// In each branch of a chain.
	slots("if p { let a = 1; } else if p { let a = \"x\"; let b = a; } else { let b = p; let c = b; let a = c; }", 4, `
		0: step; load 0; unless 7; step; 1; store 1; jump 26
		7: step; load 0; unless 17; step; "x"; store 1; step; load 1; store 2; jump 26
		17: step; load 0; store 1; step; load 1; store 2; step; load 2; store 3
		26: return 0`)
	// The most is within, and what stands behind it uses less.
	slots("let a = 1; while p { let b = 1; let c = 1; let d = 1; break; } let e = 1;", 5, `
		0: step; 1; store 1
		3: step
		4: step; load 0; unless 19; step; 1; store 2; step; 1; store 3; step; 1; store 4; step; jump 19; jump 4
		19: step; 1; store 2; return 0`)
	// A name that is the last of its block has a slot, too; so has one that nothing leads to.
	slots("if p { let a = 1; }", 2, "0: step; load 0; unless 6; step; 1; store 1; return 0")
	slots("return; let a = 1; let b = a;", 3, "0: step; return 0; step; 1; store 1; step; load 1; store 2; return 0")
	// Each function begins anew.
	wantMade(t, withMain("fn g(a i64) { let b = 1; let c = 2; } fn f() { let c = 1; }"), 1, "0: step; 1; store 0; return 0")
	// A name that would hide another does not fit.
	for _, statements := range []string{"let p = true;", "let a = 1; let a = 1;", "let a = 1; if p { let a = 2; }", "if p { let a = 1; while p { let a = 2; } }", "while p { let p = true; }"} {
		wantNothing(t, parsed(t, withMain("fn f(p bool) { "+statements+" }")))
	}
}

func wantNothing(t *testing.T, tree impl.Tree) {
	t.Helper()
	if got := checkCompile(t, tree); !reflect.DeepEqual(got, impl.Code{}) {
		t.Errorf("%.1000s: %.1000v", impl.Print(tree), got)
	}
}

// Trees that do not fit, with each code of Check.
func TestCompileUnfit(t *testing.T) {
	for code, src := range map[int]string{
		1:  withMain("fn f() { } fn f() { }"),
		2:  inF("let b = 1;"),
		3:  inF("x = 1;"),
		4:  inF("k();"),
		5:  inF("say 1;"),
		6:  inF("break;"),
		7:  inF("return 1;"),
		8:  withMain("fn f() -> i64 { }"),
		10: "fn f() { }",
		11: inF(lets(0, 199)),
	} {
		tree := parsed(t, src)
		if got := impl.Check(tree).Code; got != code {
			t.Errorf("%s: code %d", src, got)
		}
		wantNothing(t, tree)
	}
	for _, src := range []string{
		"fn main() { }", "fn main() -> i64 { return 1; }", "fn main(a text) -> text { return a; }", inMain("return;"), inMain("while 1 { }"), inMain("if \"\" { }"),
		inMain("continue;"), inMain("let x = x;"), inMain("let x = main() + 1;"), inMain("while true { } break;"), inMain("if true { } else { continue; }"),
		withMain("fn f() { } fn g() -> i64 { return f(); }"), withMain("fn f() { let x = f(); }"), withMain("fn f() { f(f()); }"),
		withMain("fn f() -> i64 { while true { return 1; } }"), withMain("fn f() -> i64 { if true { return 1; } }"), withMain("fn f(a i64, a i64) { }"),
	} {
		wantNothing(t, parsed(t, src))
	}
}

// Trees that are not valid.
func TestCompileNotValid(t *testing.T) {
	whole := treeOf(xProgram(xFn("main", impl.TypeText, xBlock(xReturn(xText(""))))))
	if len(checkCompile(t, whole).Fns) != 1 {
		t.Fatal("it fits")
	}
	wantNothing(t, impl.Tree{})
	wantNothing(t, impl.Tree{Nodes: []impl.Node{}})
	for end := range whole.Nodes {
		wantNothing(t, impl.Tree{Nodes: whole.Nodes[:end]})
		wantNothing(t, impl.Tree{Nodes: whole.Nodes[end+1:]})
		for _, change := range []func(n *impl.Node){
			func(n *impl.Node) { n.Kids++ }, func(n *impl.Node) { n.Kids-- }, func(n *impl.Node) { n.Kids = -1 },
			func(n *impl.Node) { n.Kind = 0 }, func(n *impl.Node) { n.Kind = 25 }, func(n *impl.Node) { n.Op = 1 },
			func(n *impl.Node) { n.N = 1 }, func(n *impl.Node) { n.Type = 11 }, func(n *impl.Node) { n.Text = "1" + xs(3000) },
		} {
			bent := impl.Tree{Nodes: slices.Clone(whole.Nodes)}
			change(&bent.Nodes[end])
			wantNothing(t, bent)
		}
	}
	wantNothing(t, impl.Tree{Nodes: append(slices.Clone(whole.Nodes), whole.Nodes...)})
	wantNothing(t, treeOf(xProgram()))
	wantNothing(t, treeOf(allKinds()))
}

// beside has functions beside a main that does nothing.
func beside(fns ...twig) impl.Tree {
	main := xFn("main", impl.TypeText, xBlock(xReturn(xText(""))))
	return treeOf(xProgram(append(fns, main)...))
}

// Trees of MaxNodes nodes, made of the statements that have the most instructions for their nodes.
func TestCompileMaxNodes(t *testing.T) {
	room := impl.MaxNodes - len(beside(xFn("f", impl.TypeNone, xBlock())).Nodes)
	for _, c := range []struct {
		what       twig
		nodes, ins int
	}{
		{xReturn(), 1, 2},
		{xWhile(xBool(1), xBlock()), 3, 5},
		{xWhile(xBool(1), xBlock(xBreak(), xContinue())), 5, 9},
		{xIf(xBool(1), xBlock()), 3, 3},
		{xIf(xBool(1), xBlock(), xBlock()), 4, 4},
		{xIf(xBin(impl.OpOr, xBool(1), xBin(impl.OpAnd, xBool(0), xBool(1))), xBlock()), 7, 11},
		{xDo(xCall("main")), 2, 3},
		{xSay(xText("x")), 2, 3},
		{xIf(xBool(1), xBlock(xLet("a", xNum(1)), xSet("a", xName("a")))), 7, 9},
	} {
		for _, more := range []int{-1, 0, 1} {
			count, rest := (room+more)/c.nodes, (room+more)%c.nodes
			body := append(slices.Repeat([]twig{c.what}, count), slices.Repeat([]twig{xReturn()}, rest)...)
			tree := beside(xFn("f", impl.TypeNone, xBlock(body...)))
			if len(tree.Nodes) != impl.MaxNodes+more {
				t.Fatalf("%d nodes", len(tree.Nodes))
			}
			if more > 0 {
				wantNothing(t, tree)
				continue
			}
			if got, want := len(fnNamed(t, tree, "f").Ins), count*c.ins+rest*2+1; got != want {
				t.Errorf("%d instructions, want %d", got, want)
			}
		}
	}
}

// nested puts something into itself as often as a tree allows, and once more.
func nested(inner twig, around func(twig) twig, whole func(twig) impl.Tree) (most, over impl.Tree) {
	for {
		most = whole(inner)
		inner = around(inner)
		if over = whole(inner); !impl.ValidTree(over) {
			return most, over
		}
	}
}

// Trees that are MaxNest deep: what lies on the stack, and loops, ifs and choices within each other.
func TestCompileMaxNest(t *testing.T) {
	b, n := xName("b"), xName("n")
	params := []twig{xParam("b", impl.TypeBool)}
	var ints []twig
	for i := range impl.MaxArgs {
		ints = append(ints, xParam(string(rune('n'+i)), impl.TypeI64))
	}
	giving := func(typ int, params []twig) func(twig) impl.Tree {
		return func(e twig) impl.Tree {
			return beside(xFn("f", typ, append(slices.Clone(params), xBlock(xReturn(e)))...))
		}
	}
	doing := func(body twig) impl.Tree {
		return beside(xFn("f", impl.TypeNone, xParam("b", impl.TypeBool), body))
	}
	call := func(at int) func(twig) twig {
		return func(e twig) twig {
			args := slices.Repeat([]twig{n}, impl.MaxArgs)
			args[at] = e
			return xCall("f", args...)
		}
	}
	for _, c := range []struct {
		inner  twig
		around func(twig) twig
		whole  func(twig) impl.Tree
		ins    int
	}{
		{b, func(e twig) twig { return xUn(impl.OpNot, e) }, giving(impl.TypeBool, params), 56 + 3},
		{b, func(e twig) twig { return xBin(impl.OpOr, b, e) }, giving(impl.TypeBool, params), 56*4 + 3},
		{b, func(e twig) twig { return xBin(impl.OpOr, e, b) }, giving(impl.TypeBool, params), 56*4 + 3},
		{b, func(e twig) twig { return xBin(impl.OpAnd, b, e) }, giving(impl.TypeBool, params), 56*4 + 3},
		{b, func(e twig) twig { return xBin(impl.OpAnd, e, b) }, giving(impl.TypeBool, params), 56*4 + 3},
		{n, func(e twig) twig { return xBin(impl.OpSub, n, e) }, giving(impl.TypeI64, ints), 56*2 + 3},
		{n, call(0), giving(impl.TypeI64, ints), 56*8 + 3},
		{n, call(7), giving(impl.TypeI64, ints), 56*8 + 3},
		{xBlock(xBreak(), xSet("b", b)), func(body twig) twig { return xBlock(xWhile(b, body), xBreak()) }, func(body twig) impl.Tree { return doing(xBlock(xWhile(b, body))) }, 27*7 + 7 + 3 + 1},
		{xBlock(), func(body twig) twig { return xBlock(xIf(b, body)) }, doing, 29*3 + 1},
		{xBlock(), func(body twig) twig { return xBlock(xIf(b, xBlock(), body)) }, doing, 29*4 + 1},
	} {
		most, over := nested(c.inner, c.around, c.whole)
		if got := levelsOf(most.Nodes); got != impl.MaxNest+1 {
			t.Errorf("%d levels", got)
		}
		if got := len(fnNamed(t, most, "f").Ins); got != c.ins {
			t.Errorf("%.300s: %d instructions, want %d", impl.Print(most), got, c.ins)
		}
		wantNothing(t, over)
	}
}

// The greatest stack that can be made: MaxArgs values for each node above.
func TestCompileStack(t *testing.T) {
	var params []twig
	for i := range impl.MaxArgs {
		params = append(params, xParam(string(rune('n'+i)), impl.TypeI64))
	}
	seven := slices.Repeat([]twig{xName("n")}, impl.MaxArgs-1)
	around := func(e twig) twig { return xCall("f", append(slices.Clone(seven), e)...) }
	tree, _ := nested(xName("n"), around, func(e twig) impl.Tree {
		return beside(xFn("f", impl.TypeI64, append(slices.Clone(params), xBlock(xReturn(e)))...))
	})
	most := 0
	for _, s := range impl.Shapes(checkCompile(t, tree), 0) {
		most = max(most, len(s.Stack))
	}
	if most != 56*7+1 {
		t.Errorf("%d values", most)
	}
}

func TestCompileMaxFns(t *testing.T) {
	for _, count := range []int{1, 2, impl.MaxFns, impl.MaxFns + 1} {
		var fns []twig
		for i := range count - 1 {
			fns = append(fns, xFn("f"+strconv.Itoa(i), impl.TypeNone, xBlock(xDo(xCall("f"+strconv.Itoa(count-2-i))), xDo(xCall("main")))))
		}
		tree := beside(fns...)
		if count > impl.MaxFns {
			wantNothing(t, tree)
			continue
		}
		c := checkCompile(t, tree)
		if len(c.Fns) != count {
			t.Fatalf("%d functions", len(c.Fns))
		}
		for i, fn := range c.Fns[:count-1] {
			want := []impl.Ins{cOp(16, 0), cOp(9, count-2-i), cOp(16, 0), cOp(9, count-1), cOp(4, 0), cOp(12, 0)}
			if fn.Name != "f"+strconv.Itoa(i) || !slices.Equal(fn.Ins, want) {
				t.Errorf("%d: %+v", i, fn)
			}
		}
	}
}

func TestCompileMaxArgs(t *testing.T) {
	for count := range impl.MaxArgs + 2 {
		var params, args []twig
		var types []int
		want := "0: step"
		for i := range count {
			params, args = append(params, xParam("p"+strconv.Itoa(i), 1+i%10)), append(args, xName("p"+strconv.Itoa(i)))
			types, want = append(types, 1+i%10), want+"; load "+strconv.Itoa(i)
		}
		tree := beside(xFn("f", impl.TypeNone, append(params, xBlock(xDo(xCall("f", args...))))...))
		if count > impl.MaxArgs {
			wantNothing(t, tree)
			continue
		}
		fn := fnNamed(t, tree, "f")
		if !slices.Equal(fn.Params, types) || fn.Slots != count || writtenList(fn.Ins) != linesOf(t, want+"; call 0; return 0") {
			t.Errorf("%+v", fn)
		}
	}
}

func TestCompileMaxSlots(t *testing.T) {
	params := "a0 i64, a1 i64, a2 i64, a3 i64, a4 i64, a5 i64, a6 i64, a7 i64"
	for _, c := range []struct{ params, within, behind string }{
		{"", "%s", ""},
		{params, "%s", ""},
		{"", "if true { %s }", ""},
		{"", "while true { %s } ", lets(0, 100)},
		{params, "let x = 1; if true { } else { let y = 1; while true { %s } }", lets(0, 150)},
	} {
		around := strings.Count(c.params+c.within, " i64") + strings.Count(c.within, "let ")
		for _, count := range []int{199, 200, 201} {
			body := fmt.Sprintf(c.within, lets(0, count-around)) + c.behind
			tree := parsed(t, withMain("fn f("+c.params+") { "+body+" }"))
			if count > impl.MaxSlots {
				wantNothing(t, tree)
				continue
			}
			fn := fnNamed(t, tree, "f")
			last := cOp(impl.InsStore, count-1)
			if fn.Slots != count || !slices.Contains(fn.Ins, last) {
				t.Errorf("%.200s: %d slots, want %d", body, fn.Slots, count)
			}
		}
	}
}

// A code whose form is longer than MaxBytes is made all the same.
func TestCompileLongForms(t *testing.T) {
	for _, count := range []int{65, 66, 67, 500} {
		tree := beside(xFn("f", impl.TypeNone, xBlock(slices.Repeat([]twig{xSay(xText(xs(3000)))}, count)...)))
		c := checkCompile(t, tree)
		form := impl.WriteCode(c)
		if len(c.Fns) != 2 || len(c.Fns[0].Ins) != 3*count+1 || (form == "") != (count > 66) {
			t.Errorf("%d texts: a form of %d bytes", count, len(form))
		}
	}
}

// What is answered is new memory, and what was given stays as it is, up to the end of its room.
func TestCompileOwnMemory(t *testing.T) {
	src := "fn other(a text, b i64) -> text { let c = a + \"held\"; while b > 0 { b = b - 1; } return c + \"held\" + \"other\"; } fn main() -> text { return other(\"main\", 3); } fn last(x bool, y bool) { if x || y { say \"last\"; } }"
	tree := parsed(t, src)
	tree.Nodes = marked(tree.Nodes, impl.Node{Kind: 99, Text: "mark"})
	before := slices.Clone(tree.Nodes[:cap(tree.Nodes)])
	c := impl.Compile(tree)
	want := writtenCode(c)
	var texts []string
	for _, fn := range c.Fns {
		texts = append(texts, fn.Name)
		for _, ins := range fn.Ins {
			texts = append(texts, ins.Text)
		}
	}
	for i, text := range texts {
		for _, n := range tree.Nodes {
			if isShared(text, n.Text) {
				t.Errorf("%q is shared with the tree", text)
			}
		}
		for _, other := range texts[:i] {
			if isShared(text, other) {
				t.Errorf("%q is shared with %q", text, other)
			}
		}
	}
	for f := range c.Fns {
		fill(c.Fns[f].Params, 50+f)
		room := c.Fns[f].Ins[:cap(c.Fns[f].Ins)]
		for i := range room {
			room[i] = cOp(50+f, 0)
		}
	}
	for f, fn := range c.Fns {
		other := func(ins impl.Ins) bool { return ins != cOp(50+f, 0) }
		if !isFilled(fn.Params, 50+f) || slices.ContainsFunc(fn.Ins[:cap(fn.Ins)], other) {
			t.Errorf("function %d: shared", f)
		}
	}
	if !slices.Equal(tree.Nodes[:cap(tree.Nodes)], before) {
		t.Error("the tree was changed")
	}
	if got := writtenCode(impl.Compile(tree)); got != want {
		t.Errorf("%s, then %s", want, got)
	}
}

// What the code does, beside what it is: loops that are left, choices that leave a kid out, slots that are used again.
func TestCompileDoes(t *testing.T) {
	for _, src := range []string{
		mainOf("let s = \"\"; let n = 0; while n < 9 { n = n + 1; if n % 2 == 0 { continue; } let m = 0; while true { m = m + 1; if m > n { break; } if m == 3 { continue; } s = s + dec(m); } if n == 7 { break; } } return s;"),
		mainOf("if true || read(\"a\") == \"\" { } if false && has(\"b\") { } if has(\"c\") && (has(\"d\") || has(\"e\")) { say \"yes\"; } else if has(\"f\") { say \"else\"; } return list(\"g\");"),
		mainOf("if has(\"a\") { let x = 1; say dec(x); } let y = \"x\"; let z = true; while z { let x = y; z = false; say x; } return y;"),
		"fn f(n i64) -> i64 { if n < 2 { return n; } return f(n - 1) + f(n - 2); } fn g() { say \"g\"; f(3); } fn main() -> text { g(); return dec(f(9)); }",
		"fn f(n i64) { f(n + 1); } fn main() -> text { f(0); return \"\"; }",
		inMain("while true { }"),
		mainOf("while true { continue; } fail \"x\";"),
		mainOf("write \"o\", tool(\"t\", arg() + \"!\"); return tool(\"t\", \"z\");"),
	} {
		tree := parsed(t, src)
		checkCompile(t, tree)
		for _, replies := range [][]impl.Reply{nil, given("a"), given("", "b", "c", "d"), {goneReply, goneReply, goneReply, goneReply}, {goneReply, belowReply, {}, {}}, given(mainOf("return arg();"), mainOf("return read(arg());"), "end")} {
			checkDoes(t, tree, impl.Job{Arg: "a"}, replies)
			checkDoes(t, tree, outs("o"), replies)
		}
	}
}
