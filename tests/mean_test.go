package tests

import (
	"fmt"
	"slices"
	"strings"
	"testing"
	"unsafe"

	"loop.example/kilnmill/impl"
)

var goneReply = impl.Reply{Code: impl.Missing}
var belowReply = impl.Reply{Code: impl.Below}

func given(texts ...string) []impl.Reply {
	var list []impl.Reply
	for _, text := range texts {
		list = append(list, impl.Reply{Text: text})
	}
	return list
}

func outs(names ...string) impl.Job { return impl.Job{Outs: names} }

func done(text string, steps int) impl.Turn { return ended(impl.Done, text, steps) }

func ended(code int, text string, steps int) impl.Turn {
	return impl.Turn{Over: true, Code: code, Text: text, Steps: steps}
}

func waits(kind int, name string, steps int) impl.Turn {
	return impl.Turn{Kind: kind, Name: name, Steps: steps}
}

// wantTurn holds what a program does against a turn; checkMean does the same with the second way, the folded tree, and fewer and more replies.
func wantTurn(t *testing.T, src string, j impl.Job, replies []impl.Reply, want impl.Turn) {
	t.Helper()
	if got := checkMean(t, parsed(t, src), j, replies); !sameTurn(got, want) {
		t.Errorf("%.600s\nwith %.100q and %.300q:\n%.300q\nwant\n%.300q", src, j, fmt.Sprint(replies), fmt.Sprint(got), fmt.Sprint(want))
	}
}

// mainOf is a main with these statements and nothing behind them.
func mainOf(statements string) string { return "fn main() -> text { " + statements + " }" }

func TestMeanStatements(t *testing.T) {
	for _, c := range []struct {
		src   string
		text  string
		steps int
	}{
		{mainOf("return \"\";"), "", 2},
		{mainOf("let a = \"x\"; return a;"), "x", 3},
		{mainOf("let a = \"x\"; a = a + \"y\"; a = a + a; return a;"), "xyxy", 5},
		{mainOf("if true { return \"y\"; } return \"n\";"), "y", 3},
		{mainOf("if false { return \"y\"; } return \"n\";"), "n", 3},
		{mainOf("if true { return \"y\"; } else { return \"n\"; }"), "y", 3},
		{mainOf("if false { return \"y\"; } else { return \"n\"; }"), "n", 3},
		// An if behind else is a statement, so it is a step.
		{mainOf("if true { return \"1\"; } else if true { return \"2\"; } else { return \"3\"; }"), "1", 3},
		{mainOf("if false { return \"1\"; } else if true { return \"2\"; } else { return \"3\"; }"), "2", 4},
		{mainOf("if false { return \"1\"; } else if false { return \"2\"; } else { return \"3\"; }"), "3", 4},
		{mainOf("if false { } else if false { } else if true { return \"3\"; } return \"4\";"), "3", 5},
		{mainOf("if false { } else if false { } return \"4\";"), "4", 4},
		{mainOf("if true { } else { fail \"\"; } if true { } return \"\";"), "", 4},
		// A while is a step, and so is each time that its condition is evaluated.
		{mainOf("while false { } return \"\";"), "", 4},
		{mainOf("let i = 0; while i < 3 { i = i + 1; } return dec(i);"), "3", 11},
		{mainOf("while true { break; } return \"\";"), "", 5},
		{mainOf("let i = 0; while i < 3 { i = i + 1; continue; } return dec(i);"), "3", 14},
		{mainOf("let i = 0; while i < 3 { i = i + 1; if i == 2 { continue; } i = i + 10; } return dec(i);"), "11", 9},
		{mainOf("let s = \"\"; let i = 0; while true { i = i + 1; if i == 2 { continue; } if i == 4 { break; } s = s + dec(i); } return s;"), "13", 24},
		{mainOf("while true { while true { return \"in\"; } } return \"out\";"), "in", 6},
		{mainOf("while true { if true { if true { return \"in\"; } } } return \"out\";"), "in", 6},
		// break and continue are of the innermost while.
		{mainOf("let n = 0; let i = 0; while i < 2 { i = i + 1; while true { n = n + 1; break; } n = n + 10; } return dec(n);"), "22", 20},
		{mainOf("let n = 0; let i = 0; while i < 2 { i = i + 1; let k = 0; while k < 2 { k = k + 1; if true { continue; } n = n + 1; } n = n + 10; } return dec(n);"), "20", 34},
		{mainOf("let n = 0; while true { while false { } break; } return dec(n);"), "0", 8},
		// What stands behind the end of a block is not done.
		{mainOf("return \"a\"; return \"b\";"), "a", 2},
		{mainOf("while true { break; fail \"\"; } return \"\";"), "", 5},
		{mainOf("let i = 0; while i < 1 { i = 1; continue; fail \"\"; } return \"\";"), "", 8},
	} {
		wantTurn(t, c.src, impl.Job{}, nil, done(c.text, c.steps))
	}
}

func TestMeanFunctions(t *testing.T) {
	for _, c := range []struct {
		src   string
		text  string
		steps int
	}{
		{"fn f() { } " + mainOf("f(); return \"\";"), "", 4},
		{"fn f() { return; } " + mainOf("f(); return \"\";"), "", 5},
		{"fn f() { if true { return; } fail \"\"; } " + mainOf("f(); return \"\";"), "", 6},
		{"fn f() { while true { return; } } " + mainOf("f(); return \"\";"), "", 7},
		{"fn f() -> text { return \"f\"; } " + mainOf("return f() + f();"), "ff", 6},
		{"fn f() -> text { return \"f\"; } " + mainOf("f(); return \"\";"), "", 5},
		{mainOf("return f();") + " fn f() -> text { return g(); } fn g() -> text { return \"g\"; }", "g", 6},
		{"fn f(a text, b text) -> text { return b + a; } " + mainOf("return f(\"1\", \"2\");"), "21", 4},
		{"fn f(a bool, b u8, c text, d i64, e i8, g u64, h u16, i u32) -> text { if a { return dec(b) + c + dec(d) + dec(e) + dec(g) + dec(h) + dec(i); } return \"\"; } " +
			mainOf("return f(true, 1u8, \"t\", 2, 3i8, 4u64, 5u16, 6u32);"), "1t23456", 5},
		// A parameter that is set leaves what it was called with as it is, and each call has names of its own.
		{"fn f(a i64) -> i64 { a = a + 1; return a; } " + mainOf("let a = 1; let b = f(a) + f(a); return dec(a) + dec(b);"), "14", 10},
		{"fn f(n i64) -> text { let m = n * 10; if n == 0 { return \"\"; } let s = f(n - 1); return s + dec(n) + dec(m); } " + mainOf("return f(2);"), "110220", 16},
		{"fn f(n i64) -> i64 { if n < 2 { return n; } return f(n - 1) + f(n - 2); } " + mainOf("return dec(f(6));"), "8", 2 + 25*3},
		// The kids of a call are evaluated ahead of it, so the innermost call is done first.
		{"fn f(a text) -> text { return a + \"f\"; } " + mainOf("return f(f(f(\"\")));"), "fff", 8},
		// A name of a function and one of a value are no matter to each other.
		{"fn f(f text) -> text { let g = f; return g; } fn g() -> text { return \"g\"; } " + mainOf("let f = f(g()); return f;"), "g", 8},
		{"fn f(a bool) -> bool { return !a; } " + mainOf("if f(false) && f(f(true)) || f(true) { return \"y\"; } return \"n\";"), "y", 9},
	} {
		wantTurn(t, c.src, impl.Job{}, nil, done(c.text, c.steps))
	}
	// main is a function as others are: only the first one's return ends the run.
	wantTurn(t, mainOf("let a = read(\"a\"); if a == \"\" { return \"in\"; } return main() + a;"), outs(), given("x", "y", ""), done("inyx", 12))
	again := mainOf("if has(\"a\") { return \"in\"; } let a = main(); write \"o\", a; return a + \"!\";")
	wantTurn(t, again, outs("o"), []impl.Reply{goneReply, {}}, impl.Turn{Over: true, Text: "in!", Steps: 8, Files: []impl.File{{Name: "o", Text: "in"}}})
}

// Names: slots that are used again, and names that are made again.
func TestMeanNames(t *testing.T) {
	for _, c := range []struct{ statements, text string }{
		{"if true { let a = \"1\"; } let b = \"2\"; return b;", "2"},
		{"let z = \"0\"; if true { let a = \"1\"; let b = \"2\"; z = z + a + b; } let b = \"3\"; return z + b;", "0123"},
		{"let z = \"\"; if true { let a = \"1\"; z = z + a; } if true { let b = \"2\"; let a = \"3\"; z = z + a + b; } return z;", "132"},
		{"let z = \"\"; if false { let a = 1; } else { let a = \"1\"; z = z + a; } return z;", "1"},
		{"let z = \"\"; if false { let a = 1; } else if true { let b = \"2\"; z = z + b; } else { let c = true; } return z;", "2"},
		{"let z = \"\"; let i = 0; while i < 3 { let a = dec(i); i = i + 1; z = z + a; } let a = \"a\"; return z + a;", "012a"},
		{"let i = 0; let s = 0; while i < 3 { let k = 0; while k < i { let m = k * i; s = s + m; k = k + 1; } let n = i; s = s + n; i = i + 1; } return dec(s);", "5"},
		{"let i = 0; while i < 2 { if i == 0 { let a = \"1\"; i = i + len(a); continue; } let b = \"2\"; i = i + 1; if true { let a = \"3\"; return a + b; } } return \"\";", "32"},
		{"let a = 1; let b = 2; let c = 3; b = a + c; a = b + c; c = a + b; return dec(a) + dec(b) + dec(c);", "7411"},
		{"let a = 1u8; a = a - 2u8; let b = i8(a); return dec(a) + dec(b);", "255-1"},
	} {
		got := checkMean(t, parsed(t, mainOf(c.statements)), impl.Job{}, nil)
		if !got.Over || got.Code != impl.Done || got.Text != c.text {
			t.Errorf("%q: %+v, want %q", c.statements, got, c.text)
		}
	}
	// As many names as there may be.
	var src, sum strings.Builder
	for i := range impl.MaxSlots {
		fmt.Fprintf(&src, "let n%d = %d; ", i, i)
		if i%10 == 0 {
			fmt.Fprintf(&sum, "s = s + n%d;", i)
		}
	}
	many := strings.Replace(src.String(), "let n199 = 199;", "let s = 0;", 1) + sum.String()
	wantTurn(t, mainOf(many+" return dec(s);"), impl.Job{}, nil, done("1900", 1+200+20+1))
}

// Values are those of chapter 4, and only what is needed is evaluated.
func TestMeanValues(t *testing.T) {
	for _, c := range []struct{ e, text string }{
		{"dec(7 / 2) + dec(-7 / 2) + dec(-7 % 2)", "3-3-1"},
		{"dec(200u8 + 100u8) + dec(i8(200)) + dec(~0u16)", "44-5665535"},
		{"dec(len(\"abc\")) + cut(\"abcd\", 1, 3) + chr(at(\"xyz\", 2)) + dec(find(\"abc\", \"c\")) + dec(num(\"-5\"))", "3bcz2-5"},
		{"arg()", "the arg"},
		{"arg() + arg()", "the argthe arg"},
	} {
		wantTurn(t, mainOf("return "+c.e+";"), impl.Job{Arg: "the arg"}, nil, done(c.text, 2))
	}
	// Both are true: what is asked for by y is there, what is asked for by n is not.
	y, n := "has(\"y\") == true", "has(\"n\") != true"
	for _, c := range []struct {
		cond  string
		looks string
		is    bool
	}{
		{y + " || " + n, "y", true},
		{n + " || " + y, "n", true},
		{y + " && " + n, "yn", true},
		{"!(" + y + ") && " + n, "y", false},
		{"!(" + y + ") || " + n, "yn", true},
		{"!(" + y + ") || !(" + n + ")", "yn", false},
		{y + " && !(" + n + ")", "yn", false},
		{"(" + y + " || " + n + ") && " + n, "yn", true},
		{"(" + y + " && " + n + ") || " + n, "yn", true},
		{y + " || 1 / 0 == 1", "y", true},
		{"!(" + y + ") && 1 / 0 == 1", "y", false},
		// The marks between bools that are n || or && have both.
		{"(" + y + ") == (" + n + ")", "yn", true},
		{"(" + y + ") != (" + n + ")", "yn", false},
	} {
		var replies []impl.Reply
		for _, name := range c.looks {
			replies = append(replies, map[rune]impl.Reply{'y': {}, 'n': goneReply}[name])
		}
		src := mainOf("if " + c.cond + " { return \"is\"; } return \"is not\";")
		wantTurn(t, src, impl.Job{}, replies, done(map[bool]string{true: "is", false: "is not"}[c.is], 3))
		for k, name := range c.looks {
			wantTurn(t, src, impl.Job{}, replies[:k], waits(impl.LookHas, string(name), 2))
		}
	}
}

// Kids are evaluated in their order, ahead of what is done with them.
func TestMeanOrder(t *testing.T) {
	for _, statements := range []string{
		"return read(\"a\") + (read(\"b\") + read(\"c\"));",
		"return (read(\"a\") + read(\"b\")) + read(\"c\");",
		"if read(\"a\") == read(\"b\") { } return read(\"c\");",
		"f(read(\"a\"), read(\"b\"), read(\"c\")); return \"\";",
		"let z = f(read(\"a\"), read(\"b\"), \"\") + f(read(\"c\"), \"\", \"\"); return z;",
		"write read(\"a\"), read(\"b\") + read(\"c\"); return \"\";",
		"let z = cut(read(\"a\"), len(read(\"b\")), len(read(\"c\"))); return \"\";",
		"let z = find(read(\"a\"), read(\"b\")); say read(\"c\"); return \"\";",
		"let z = tool(read(\"a\"), read(\"b\") + read(\"c\")); return \"\";",
		"write \"\", read(\"a\") + read(\"b\") + read(\"c\"); return \"\";",
		"let z = tool(\"\", read(\"a\") + read(\"b\") + read(\"c\")); return \"\";",
		"while read(\"a\") != read(\"b\") { } fail read(\"c\");",
	} {
		src := "fn f(a text, b text, c text) -> text { return a + b + c; } " + mainOf(statements)
		for k, name := range []string{"a", "b", "c"} {
			got := checkMean(t, parsed(t, src), impl.Job{}, given("", "", "")[:k])
			if got.Over || got.Kind != impl.LookRead || got.Name != name {
				t.Errorf("%q with %d replies: %+v", statements, k, got)
			}
		}
		if got := checkMean(t, parsed(t, src), impl.Job{}, given("", "", "")); !got.Over {
			t.Errorf("%q: %+v", statements, got)
		}
	}
}

// Each end of a run, with what it tells beside its Code.
func TestMeanEnds(t *testing.T) {
	before := "say \"s\"; write \"o\", \"w\"; "
	for _, c := range []struct {
		statements string
		replies    []impl.Reply
		code       int
		text       string
		steps      int
	}{
		{"return \"r\";", nil, impl.Done, "r", 4},
		{"fail \"f\";", nil, impl.Failed, "f", 4},
		{"fail \"\";", nil, impl.Failed, "", 4},
		{"fail read(\"a\");", given(xs(3000)), impl.Failed, xs(3000), 4},
		{"return read(\"a\");", given(xs(3000)), impl.Done, xs(3000), 4},
		{"return dec(1 / 0);", nil, impl.Broken, "divide in main", 4},
		{"while true { } return \"\";", nil, impl.Spent, "", 4000},
		{"return read(\"a\");", []impl.Reply{goneReply}, impl.Missing, "a", 4},
		{"return read(\"a\");", []impl.Reply{belowReply}, impl.Below, "a", 4},
		{"return tool(\"a\", \"\");", []impl.Reply{goneReply}, impl.Missing, "a", 4},
		{"return tool(\"a\", \"\");", []impl.Reply{belowReply}, impl.Below, "a", 4},
	} {
		want := impl.Turn{Over: true, Code: c.code, Text: c.text, Steps: c.steps, Said: []string{"s"}}
		if c.code == impl.Done {
			want.Files = []impl.File{{Name: "o", Text: "w"}}
		}
		wantTurn(t, mainOf(before+c.statements), outs("o"), c.replies, want)
		// The same two calls below main: what main returns is what they do, every other end is the run's.
		want.Steps += 4
		if c.code == impl.Spent {
			want.Steps = 4000
		}
		want.Text = strings.Replace(want.Text, "main", "g", 1)
		wantTurn(t, "fn g() -> text { "+before+c.statements+" } fn f() -> text { return g(); } "+mainOf("return f();"), outs("o"), c.replies, want)
	}
	stops := impl.Turn{Kind: impl.LookRead, Name: "a", Steps: 4, Said: []string{"s"}}
	wantTurn(t, mainOf(before+"return read(\"a\");"), outs("o"), nil, stops)
}

// A word that breaks a run is told with the function whose node it is: in main, in another one, and in both of a tool.
func TestMeanWords(t *testing.T) {
	long := "\"" + xs(1500) + "\""
	for _, c := range []struct {
		word, statement string
		steps           int
	}{
		{"divide", "let z = 1 / (1 - 1);", 1},
		{"divide", "let z = 1u8 % 0u8;", 1},
		{"divide", "say dec(0 / 0);", 1},
		{"divide", "if 1 / 0 == 1 { }", 1},
		{"divide", "if false { } else if 1 / 0 == 1 { }", 2},
		{"divide", "while 1 / 0 == 1 { }", 2},
		{"divide", "while true { if true { break; } } while true { let z = 1 / 0; }", 7},
		{"divide", "fail dec(1 / 0);", 1},
		{"divide", "write dec(1 / 0), \"\";", 1},
		{"divide", "write \"\", dec(1 / 0);", 1},
		{"divide", "if has(dec(1 / 0)) { }", 1},
		{"divide", "say tool(\"\", dec(1 / 0));", 1},
		{"divide", "one(1 / 0);", 1},
		{"divide", "let z = 1; z = z / 0;", 2},
		{"divide", "return dec(1 / 0);", 1},
		{"divide", "let z = true && 1 / 0 == 1;", 1},
		{"divide", "let z = -(~u8(1 / 0));", 1},
		{"long", "let z = " + long + " + (" + long + " + \"x\");", 1},
		{"range", "let z = at(\"\", 0);", 1},
		{"range", "let z = cut(\"abc\", 2, 1);", 1},
		{"number", "let z = num(\"x\");", 1},
		{"name", "say read(\"\");", 1},
		{"name", "if has(\"a b\") { }", 1},
		{"name", "say list(\" \");", 1},
		{"name", "say tool(\"\\7f\", \"\");", 1},
		{"name", "write \"\", \"\";", 1},
		{"output", "write \"no\", \"\";", 1},
		{"said", strings.Repeat("say \"s\"; ", 51), 51},
	} {
		one := "fn one(a i64) { } "
		body := c.statement + " return \"\";"
		want := func(fn string, above int) impl.Turn {
			turn := ended(impl.Broken, c.word+" in "+fn, above+c.steps)
			if c.word == "said" {
				turn.Said = slices.Repeat([]string{"s"}, 50)
			}
			return turn
		}
		inMain := one + mainOf(body)
		inF := one + "fn f() -> text { " + body + " } " + mainOf("return f();")
		asTool := mainOf("let z = tool(\"t\", \"\"); return z;")
		asToolBelow := "fn g() -> text { return tool(\"t\", \"\"); } " + mainOf("return g();")
		wantTurn(t, inMain, impl.Job{}, nil, want("main", 1))
		wantTurn(t, inF, impl.Job{}, nil, want("f", 3))
		if c.word == "long" {
			// A tool's text has no room for two such texts: they come as its arg.
			asTool = strings.Replace(asTool, "\"\"", long, 1)
			asToolBelow = strings.Replace(asToolBelow, "\"\"", long, 1)
			inMain = strings.ReplaceAll(inMain, long, "arg()")
			inF = strings.ReplaceAll(inF, long, "arg()")
		}
		wantTurn(t, asTool, impl.Job{}, given(inMain), want("main", 3))
		wantTurn(t, asTool, impl.Job{}, given(inF), want("f", 5))
		wantTurn(t, asToolBelow, impl.Job{}, given(inMain), want("main", 5))
		wantTurn(t, asToolBelow, impl.Job{}, given(inF), want("f", 7))
	}
}

// What is no program that fits breaks the one that calls it as a tool.
func TestMeanNoTool(t *testing.T) {
	calls := "return tool(\"t\", \"z\");"
	for _, src := range []string{
		"", " ", "x", "fn", "fn main() -> text { return 1 }", "\x00", "fn main() -> text { return \"; }", xs(3000),
		"fn f() -> text { return \"\"; }", "fn main() { }", "fn main() -> u8 { return 1u8; }", "fn main(a text) -> text { return a; }",
		"fn main() -> text { }", mainOf("return 1;"), mainOf("return a;"), mainOf("return f();"), mainOf("break; return \"\";"),
		inMain("") + inMain(""), mainOf("return " + strings.Repeat("-", 58) + "1;"),
	} {
		wantTurn(t, mainOf(calls), impl.Job{}, given(src), ended(impl.Broken, "tool in main", 2))
		wantTurn(t, "fn f() -> text { "+calls+" } "+mainOf("return f();"), impl.Job{}, given(src), ended(impl.Broken, "tool in f", 4))
		wantTurn(t, mainOf(calls), impl.Job{}, given(mainOf(calls), src), ended(impl.Broken, "tool in main", 4))
		wantTurn(t, mainOf(calls), impl.Job{}, given("fn g() -> text { "+calls+" } "+mainOf("return g();"), src), ended(impl.Broken, "tool in g", 6))
	}
	// One that fits, at the size that a reply may have.
	full := mainOf("return \"ok\";")
	full += "#" + xs(3000-1-len(full))
	wantTurn(t, mainOf(calls), impl.Job{}, given(full), done("ok", 4))
}

// Each look with a reply of each Code, and without one.
func TestMeanLooks(t *testing.T) {
	for _, c := range []struct {
		e                  string
		kind               int
		name               string
		there, gone, below impl.Turn
	}{
		{"read(\"a\")", impl.LookRead, "a", done(xs(3000), 2), ended(impl.Missing, "a", 2), ended(impl.Below, "a", 2)},
		{"list(\"a\")", impl.LookList, "a", done(xs(3000), 2), done("", 2), done("", 2)},
		{"list(\"\")", impl.LookList, "", done(xs(3000), 2), done("", 2), done("", 2)},
		{"yes(has(\"a\"))", impl.LookHas, "a", done("yes", 5), done("no", 5), done("yes", 5)},
		{"tool(\"a\", \"\")", impl.LookRead, "a", ended(impl.Broken, "tool in main", 2), ended(impl.Missing, "a", 2), ended(impl.Below, "a", 2)},
	} {
		src := "fn yes(a bool) -> text { if a { return \"yes\"; } return \"no\"; } " + mainOf("return "+c.e+";")
		wantTurn(t, src, impl.Job{}, nil, waits(c.kind, c.name, 2))
		wantTurn(t, src, impl.Job{}, given(xs(3000)), c.there)
		wantTurn(t, src, impl.Job{}, []impl.Reply{goneReply}, c.gone)
		wantTurn(t, src, impl.Job{}, []impl.Reply{belowReply}, c.below)
	}
	wantTurn(t, mainOf("return read(\"a\");"), impl.Job{}, given(""), done("", 2))
	wantTurn(t, mainOf("return list(\"a\");"), impl.Job{}, given("a\nab\n"), done("a\nab\n", 2))
	wantTurn(t, mainOf("return tool(\"a\", \"z\");"), impl.Job{}, given(mainOf("return arg();")), done("z", 4))
	// The same name may be answered in another way the next time.
	twice := mainOf("if has(\"a\") != has(\"a\") { return read(\"a\") + read(\"a\"); } return \"\";")
	wantTurn(t, twice, impl.Job{}, []impl.Reply{goneReply, belowReply, {Text: "1"}, {Text: "2"}}, done("12", 3))
}

// What is the name of a file, for each that asks for one.
func TestMeanFileNames(t *testing.T) {
	for _, c := range []struct {
		name  string
		right bool
	}{
		{"", false}, {"a", true}, {"!", true}, {"~", true}, {"!~/\"\\", true}, {" ", false}, {"\x7f", false}, {"\x00", false}, {"\x80", false}, {"\xff", false},
		{"a ", false}, {" a", false}, {"a b", false}, {"a\n", false}, {"\u00e4", false}, {"..", true}, {"/", true},
		{xs(60), true}, {xs(61), false}, {xs(59) + " ", false}, {xs(59) + "\x7f", false}, {xs(3000), false},
	} {
		q := quoted(c.name)
		job := impl.Job{}
		wantWrite := ended(impl.Broken, "name in main", 2)
		if c.right {
			job = outs(c.name)
			wantWrite = impl.Turn{Over: true, Steps: 3, Files: []impl.File{{Name: c.name, Text: "w"}}}
		}
		wantTurn(t, mainOf("write "+q+", \"w\"; return \"\";"), job, nil, wantWrite)
		if got := impl.ValidJob(outs(c.name)); got != c.right {
			t.Errorf("Outs of %q: %v", c.name, got)
		}
		for e, kind := range map[string]int{"read(" + q + ")": impl.LookRead, "list(" + q + ")": impl.LookList, "tool(" + q + ", \"\")": impl.LookRead, "f(has(" + q + "))": impl.LookHas} {
			want := ended(impl.Broken, "name in main", 2)
			if c.right || kind == impl.LookList && c.name == "" {
				want = waits(kind, c.name, 2)
			}
			wantTurn(t, "fn f(a bool) -> text { return \"\"; } "+mainOf("return "+e+";"), impl.Job{}, nil, want)
		}
	}
}

func TestMeanWrite(t *testing.T) {
	file := func(name, text string) impl.File { return impl.File{Name: name, Text: text} }
	for _, c := range []struct {
		statements string
		outs       []string
		want       impl.Turn
	}{
		{"", nil, impl.Turn{Over: true, Steps: 2}},
		{"write \"a\", \"1\";", []string{"a"}, impl.Turn{Over: true, Steps: 3, Files: []impl.File{file("a", "1")}}},
		{"write \"a\", \"\";", []string{"a"}, impl.Turn{Over: true, Steps: 3, Files: []impl.File{file("a", "")}}},
		{"write \"a\", \"1\"; write \"a\", \"2\"; write \"a\", \"\";", []string{"a"}, impl.Turn{Over: true, Steps: 5, Files: []impl.File{file("a", "")}}},
		{"write \"c\", \"3\"; write \"a\", \"1\"; write \"b\", \"2\"; write \"a\", \"4\";", []string{"a", "b", "c"}, impl.Turn{Over: true, Steps: 6, Files: []impl.File{file("a", "4"), file("b", "2"), file("c", "3")}}},
		{"write \"ab\", \"2\"; write \"a\", \"1\"; write \"B\", \"0\";", []string{"B", "a", "ab"}, impl.Turn{Over: true, Steps: 5, Files: []impl.File{file("B", "0"), file("a", "1"), file("ab", "2")}}},
		{"", []string{"a"}, ended(impl.Broken, "lacks a", 2)},
		{"", []string{"a", "b"}, ended(impl.Broken, "lacks a", 2)},
		{"write \"a\", \"\";", []string{"a", "b"}, ended(impl.Broken, "lacks b", 3)},
		{"write \"b\", \"\";", []string{"a", "b"}, ended(impl.Broken, "lacks a", 3)},
		{"write \"a\", \"\"; write \"c\", \"\";", []string{"a", "b", "c"}, ended(impl.Broken, "lacks b", 4)},
		{"write \"b\", \"\"; write \"b\", \"1\";", []string{"b", "c", "d"}, ended(impl.Broken, "lacks c", 4)},
		{"if false { write \"a\", \"\"; }", []string{"a"}, ended(impl.Broken, "lacks a", 3)},
		{"write \"b\", \"\";", nil, ended(impl.Broken, "output in main", 2)},
		{"write \"b\", \"\";", []string{"a"}, ended(impl.Broken, "output in main", 2)},
		{"write \"ab\", \"\";", []string{"a", "abc"}, ended(impl.Broken, "output in main", 2)},
		{"write \"a\", \"\"; write \"A\", \"\";", []string{"a"}, ended(impl.Broken, "output in main", 3)},
		// name comes ahead of output, what is wrong with the text ahead of both.
		{"write \"\", \"\";", []string{"a"}, ended(impl.Broken, "name in main", 2)},
		{"write \"a b\", \"\";", []string{"a"}, ended(impl.Broken, "name in main", 2)},
		{"write \"" + xs(61) + "\", \"\";", []string{xs(60)}, ended(impl.Broken, "name in main", 2)},
		{"write \"a b\", cut(\"\", 1, 1);", []string{"a"}, ended(impl.Broken, "range in main", 2)},
		{"write \"b\", cut(\"\", 1, 1);", []string{"a"}, ended(impl.Broken, "range in main", 2)},
	} {
		wantTurn(t, mainOf(c.statements+" return \"\";"), outs(c.outs...), nil, c.want)
	}
	// What a run lacks plays no part where it ends in another way.
	wantTurn(t, mainOf("fail \"f\";"), outs("a"), nil, ended(impl.Failed, "f", 2))
	wantTurn(t, mainOf("return read(\"x\");"), outs("a"), []impl.Reply{goneReply}, ended(impl.Missing, "x", 2))
	// What was written is not what is read.
	wantTurn(t, mainOf("write \"a\", \"1\"; return read(\"a\");"), outs("a"), nil, waits(impl.LookRead, "a", 3))
	// As many files as there may be, written from the last to the first.
	var names []string
	var files []impl.File
	src := ""
	for i := range impl.MaxOuts {
		names = append(names, fmt.Sprintf("o%02d", i))
		files = append(files, file(names[i], xs(i)))
		src = fmt.Sprintf("write %q, %q; ", names[i], xs(i)) + src
	}
	wantTurn(t, mainOf(src+"return \"\";"), outs(names...), nil, impl.Turn{Over: true, Steps: 22, Files: files})
}

func TestMeanSay(t *testing.T) {
	for _, c := range []struct {
		times int
		want  impl.Turn
	}{
		{0, done("", 2)},
		{1, done("", 3)},
		{50, done("", 52)},
		{51, ended(impl.Broken, "said in main", 52)},
		{52, ended(impl.Broken, "said in main", 52)},
	} {
		src := ""
		for i := range c.times {
			src += fmt.Sprintf("say \"%d\"; ", i)
			if i < 50 {
				c.want.Said = append(c.want.Said, fmt.Sprint(i))
			}
		}
		wantTurn(t, mainOf(src+"return \"\";"), impl.Job{}, nil, c.want)
	}
	// What is to be said comes ahead of how much was said.
	full := strings.Repeat("say \"\"; ", 50)
	wantTurn(t, mainOf(full+"say dec(1 / 0); return \"\";"), impl.Job{}, nil, impl.Turn{Over: true, Code: impl.Broken, Text: "divide in main", Steps: 52, Said: make([]string, 50)})
	wantTurn(t, mainOf(full+"say read(\"a\"); return \"\";"), impl.Job{}, nil, impl.Turn{Kind: impl.LookRead, Name: "a", Steps: 52, Said: make([]string, 50)})
	wantTurn(t, mainOf("say \"a\"; say \"a\"; say \"\"; say read(\"a\"); return \"\";"), impl.Job{}, given(xs(3000)), impl.Turn{Over: true, Steps: 6, Said: []string{"a", "a", "", xs(3000)}})
}

// burn are statements that take as many steps as are asked for, from 4 on.
func burn(steps int) string {
	odd := strings.Repeat("if true { } ", steps%2)
	return fmt.Sprintf("%sif true { let burnt = 0; while burnt < %d { burnt = burnt + 1; } } ", odd, steps/2-2)
}

// MaxSteps met exactly and by one more, the last step being of each sort.
func TestMeanSteps(t *testing.T) {
	for _, c := range []struct {
		src string
		// What stands for @ is followed by this many steps, all of them done once they may be.
		behind  int
		text    string
		replies []impl.Reply
		said    []string
	}{
		{mainOf("@ return \"r\";"), 1, "r", nil, nil},
		{mainOf("@ if true { } return \"r\";"), 2, "r", nil, nil},
		{mainOf("@ let a = 1; return \"r\";"), 2, "r", nil, nil},
		{mainOf("let a = \"\"; @ a = \"r\"; return a;"), 2, "r", nil, nil},
		{mainOf("@ if false { } else if true { return \"r\"; } return \"\";"), 3, "r", nil, nil},
		{mainOf("@ if true { return \"r\"; } else if true { } return \"\";"), 2, "r", nil, nil},
		{mainOf("@ while false { } return \"r\";"), 3, "r", nil, nil},
		{mainOf("let a = true; @ while a { a = false; } return \"r\";"), 5, "r", nil, nil},
		{mainOf("@ while true { break; } return \"r\";"), 4, "r", nil, nil},
		{mainOf("let a = true; @ while a { a = false; continue; } return \"r\";"), 6, "r", nil, nil},
		{mainOf("@ say \"s\"; return \"r\";"), 2, "r", nil, []string{"s"}},
		{"fn f() { } " + mainOf("@ f(); return \"r\";"), 3, "r", nil, nil},
		{"fn f() -> text { @ return \"r\"; } " + mainOf("return f();"), 1, "r", nil, nil},
		{"fn f() -> text { return \"r\"; } " + mainOf("@ return f();"), 3, "r", nil, nil},
		{"fn f(a text) -> text { return a; } " + mainOf("@ return f(f(\"r\"));"), 5, "r", nil, nil},
		{mainOf("@ return tool(\"t\", \"\");"), 3, "r", given(mainOf("return \"r\";")), nil},
		{mainOf("@ return read(\"t\");"), 1, "r", given("r"), nil},
	} {
		bare := strings.Replace(c.src, "@", "", 1)
		all := checkMean(t, parsed(t, bare), impl.Job{}, c.replies).Steps
		for past := range c.behind + 1 {
			// What is past is what is still to be done when the steps are used up.
			src := strings.Replace(c.src, "@", burn(impl.MaxSteps-all+past), 1)
			got := checkMean(t, parsed(t, src), impl.Job{}, c.replies)
			want := impl.Turn{Over: true, Code: impl.Spent, Steps: impl.MaxSteps}
			if past == 0 {
				want = done(c.text, impl.MaxSteps)
			}
			if c.said != nil && past < c.behind {
				want.Said = c.said
			}
			if !sameTurn(got, want) {
				t.Errorf("%q, %d past the end: %.200v, want %.200v", c.src, past, got, want)
			}
		}
	}
	// The step that is one too many comes ahead of what it would do, and behind what is there already.
	at := func(statements string) string { return mainOf(burn(impl.MaxSteps-1) + statements) }
	spent := ended(impl.Spent, "", impl.MaxSteps)
	wantTurn(t, at("fail \"f\";"), impl.Job{}, nil, spent)
	wantTurn(t, at("say dec(1 / 0); return \"\";"), impl.Job{}, nil, spent)
	wantTurn(t, at("return read(\"a\");"), impl.Job{}, nil, spent)
	wantTurn(t, at("write \"\", \"\"; return \"\";"), impl.Job{}, nil, spent)
	at = func(statements string) string { return mainOf(burn(impl.MaxSteps-2) + statements) }
	wantTurn(t, at("fail \"f\";"), impl.Job{}, nil, ended(impl.Failed, "f", impl.MaxSteps))
	wantTurn(t, at("return dec(1 / 0);"), impl.Job{}, nil, ended(impl.Broken, "divide in main", impl.MaxSteps))
	wantTurn(t, at("while 1 / 0 == 0 { } return \"\";"), impl.Job{}, nil, spent)
	wantTurn(t, at("return \"r\";"), outs("o"), nil, ended(impl.Broken, "lacks o", impl.MaxSteps))
	// The kids of a call come ahead of its step.
	wantTurn(t, "fn f(a text) -> text { return a; } "+at("return f(read(\"a\"));"), impl.Job{}, nil, waits(impl.LookRead, "a", impl.MaxSteps))
	wantTurn(t, "fn f(a text) -> text { return a; } "+at("return f(dec(1 / 0));"), impl.Job{}, nil, ended(impl.Broken, "divide in main", impl.MaxSteps))
	wantTurn(t, "fn f(a text) -> text { return a; } "+at("return f(read(\"a\"));"), impl.Job{}, given(""), spent)
}

// looking are statements with this many looks, in three steps and two more for each look.
func looking(looks int) string {
	return fmt.Sprintf("let looked = 0; while looked < %d { looked = looked + len(list(\"l\")); } ", looks)
}

func TestMeanMaxLooks(t *testing.T) {
	full := slices.Repeat(given("1"), 100)
	before := func(looks int) int { return 1 + 1 + 1 + looks + 1 + looks }
	for _, c := range []struct {
		e    string
		kind int
	}{{"read(\"a\")", impl.LookRead}, {"list(\"a\")", impl.LookList}, {"tool(\"a\", \"z\")", impl.LookRead}, {"f(has(\"a\"))", impl.LookHas}} {
		src := func(looks int) string {
			return "fn f(a bool) -> text { return arg(); } " + mainOf(looking(looks)+"return "+c.e+";")
		}
		replies := slices.Clone(full)
		replies[99].Text = mainOf("return \"\";")
		last := checkMean(t, parsed(t, src(99)), impl.Job{}, replies)
		if !last.Over || last.Code != impl.Done {
			t.Errorf("the last look, %s: %+v", c.e, last)
		}
		wantTurn(t, src(99), impl.Job{}, replies[:99], waits(c.kind, "a", before(99)+1))
		wantTurn(t, src(100), impl.Job{}, full, ended(impl.Spent, "", before(100)+1))
		// The name comes ahead of the look that is one too many, and its kids ahead of both.
		wrong := strings.Replace(src(100), "\"a\"", "\"a b\"", 1)
		wantTurn(t, wrong, impl.Job{}, full, ended(impl.Broken, "name in main", before(100)+1))
		wantTurn(t, wrong, impl.Job{}, full[:99], waits(impl.LookList, "l", before(99)+1))
		wantTurn(t, strings.Replace(src(100), "\"a\"", "dec(1 / 0)", 1), impl.Job{}, full, ended(impl.Broken, "divide in main", before(100)+1))
	}
	wantTurn(t, mainOf(looking(100)+"return \"r\";"), impl.Job{}, full, done("r", before(100)+1))
	wantTurn(t, mainOf(looking(101)+"return \"r\";"), impl.Job{}, full, ended(impl.Spent, "", before(100)+1))
	// Looks of a tool are those of the run.
	tool := mainOf(looking(99) + "return \"t\";")
	replies := append(given(tool), full[:99]...)
	wantTurn(t, mainOf("return tool(\"t\", \"\");"), impl.Job{}, replies, done("t", 2+before(99)+1))
	wantTurn(t, mainOf("return tool(\"t\", \"\") + read(\"a\");"), impl.Job{}, replies, ended(impl.Spent, "", 2+before(99)+1))
	wantTurn(t, mainOf("return tool(\"t\", \"\") + read(\"\");"), impl.Job{}, replies, ended(impl.Broken, "name in main", 2+before(99)+1))
	wantTurn(t, mainOf("return tool(\"t\", \"\") + tool(\"t\", \"\");"), impl.Job{}, replies, ended(impl.Spent, "", 2+before(99)+1))
}

// below is a program whose main calls f, which calls itself until this many calls are under way, main among them; there f does statements.
func below(calls int, statements string) string {
	return "fn f(n i64) -> text { if n > 0 { return f(n - 1); } " + statements + " } " + mainOf(fmt.Sprintf("return f(%d);", calls-2))
}

// stepsBelow are those of such a program ahead of the statements.
func stepsBelow(calls int) int { return 2 + 1 + (calls-2)*3 + 1 }

func TestMeanCalls(t *testing.T) {
	for _, c := range []struct {
		src  string
		want impl.Turn
	}{
		{below(40, "return \"r\";"), done("r", stepsBelow(40)+1)},
		{below(41, "return \"r\";"), ended(impl.Broken, "deep in f", stepsBelow(40)+1)},
		{below(39, "return main();"), ended(impl.Broken, "deep in main", stepsBelow(39)+3)},
		{below(40, "return main();"), ended(impl.Broken, "deep in f", stepsBelow(40)+1)},
		{below(39, "return g();") + " fn g() -> text { return \"r\"; }", done("r", stepsBelow(39)+3)},
		{below(40, "return g();") + " fn g() -> text { return \"r\"; }", ended(impl.Broken, "deep in f", stepsBelow(40)+1)},
		{below(39, "g(); g(); return \"r\";") + " fn g() { }", done("r", stepsBelow(39)+5)},
		{below(40, "g(); return \"\";") + " fn g() { }", ended(impl.Broken, "deep in f", stepsBelow(40)+1)},
		{mainOf("return main();"), ended(impl.Broken, "deep in main", 80)},
		{"fn f() { f(); } " + mainOf("f(); return \"\";"), ended(impl.Broken, "deep in f", 80)},
		{"fn f() { g(); } fn g() { f(); } " + mainOf("f(); return \"\";"), ended(impl.Broken, "deep in f", 80)},
		{"fn f() { g(); } fn g() { f(); } " + mainOf("g(); return \"\";"), ended(impl.Broken, "deep in g", 80)},
		// Calls that have returned are not under way.
		{"fn f() { } " + mainOf("let i = 0; while i < 100 { f(); i = i + 1; } return \"r\";"), done("r", 405)},
		// The kids of a call come ahead of it.
		{below(40, "return f(1 / 0);"), ended(impl.Broken, "divide in f", stepsBelow(40)+1)},
		{below(40, "return h(f(0));") + " fn h(a text) -> text { return a; }", ended(impl.Broken, "deep in f", stepsBelow(40)+1)},
		{below(40, "return f(len(read(\"a\")));"), waits(impl.LookRead, "a", stepsBelow(40)+1)},
		{below(40, "if false && f(0) == \"\" { } return \"r\";"), done("r", stepsBelow(40)+2)},
	} {
		wantTurn(t, c.src, impl.Job{}, nil, c.want)
	}
}

// For a call deep comes ahead of the step; for a tool the look, the program and deep do.
func TestMeanDeepAndStep(t *testing.T) {
	// With these the last step of all is the one of the statement.
	used := func(calls int, statement string) string {
		return below(calls, burn(impl.MaxSteps-1-stepsBelow(calls))+statement)
	}
	spent := ended(impl.Spent, "", impl.MaxSteps)
	deep := ended(impl.Broken, "deep in f", impl.MaxSteps)
	wantTurn(t, used(40, "return f(0);"), impl.Job{}, nil, deep)
	wantTurn(t, used(39, "return f(0);"), impl.Job{}, nil, spent)
	wantTurn(t, used(40, "return main();"), impl.Job{}, nil, deep)
	wantTurn(t, used(2, "return main();"), impl.Job{}, nil, spent)

	call := "return tool(\"t\", \"\");"
	tool := given(mainOf("return \"r\";"))
	wantTurn(t, below(39, call), impl.Job{}, tool, done("r", stepsBelow(39)+3))
	wantTurn(t, below(40, call), impl.Job{}, tool, ended(impl.Broken, "deep in f", stepsBelow(40)+1))
	wantTurn(t, used(40, call), impl.Job{}, tool, deep)
	wantTurn(t, used(39, call), impl.Job{}, tool, spent)
	for _, calls := range []int{2, 39, 40} {
		wantTurn(t, used(calls, call), impl.Job{}, nil, waits(impl.LookRead, "t", impl.MaxSteps))
		wantTurn(t, used(calls, call), impl.Job{}, []impl.Reply{goneReply}, ended(impl.Missing, "t", impl.MaxSteps))
		wantTurn(t, used(calls, call), impl.Job{}, []impl.Reply{belowReply}, ended(impl.Below, "t", impl.MaxSteps))
		wantTurn(t, used(calls, call), impl.Job{}, given("fn main() { }"), ended(impl.Broken, "tool in f", impl.MaxSteps))
		wantTurn(t, used(calls, "return tool(\"\", \"\");"), impl.Job{}, nil, ended(impl.Broken, "name in f", impl.MaxSteps))
	}
	// In a tool: the caller's main is one of the calls, the tool's main another.
	caller := mainOf(call)
	wantTurn(t, caller, impl.Job{}, given(below(39, "return \"r\";")), done("r", 2+stepsBelow(39)+1))
	wantTurn(t, caller, impl.Job{}, given(below(40, "return \"r\";")), ended(impl.Broken, "deep in f", 2+stepsBelow(39)+1))
	wantTurn(t, caller, impl.Job{}, given(mainOf("return main();")), ended(impl.Broken, "deep in main", 80))
	wantTurn(t, caller, impl.Job{}, given(below(39, "return main();")), ended(impl.Broken, "deep in f", 2+stepsBelow(39)+1))
	burnt := func(calls int, statement string) string {
		return below(calls, burn(impl.MaxSteps-3-stepsBelow(calls))+statement)
	}
	wantTurn(t, caller, impl.Job{}, given(burnt(39, "return f(0);")), deep)
	wantTurn(t, caller, impl.Job{}, given(burnt(38, "return f(0);")), spent)
	wantTurn(t, caller, impl.Job{}, append(given(burnt(39, call)), tool...), deep)
	wantTurn(t, caller, impl.Job{}, append(given(burnt(38, call)), tool...), spent)
	// Tools that call tools, each main under way: forty of them, and one more.
	chain := slices.Repeat(given(caller), 39)
	wantTurn(t, caller, impl.Job{}, append(slices.Clone(chain[:38]), tool...), done("r", 80))
	wantTurn(t, caller, impl.Job{}, append(slices.Clone(chain), tool...), ended(impl.Broken, "deep in main", 80))
	wantTurn(t, caller, impl.Job{}, append(slices.Clone(chain), given("x")...), ended(impl.Broken, "tool in main", 80))
	wantTurn(t, caller, impl.Job{}, append(slices.Clone(chain), goneReply), ended(impl.Missing, "t", 80))
	wantTurn(t, caller, impl.Job{}, chain, waits(impl.LookRead, "t", 80))
}

func TestMeanTools(t *testing.T) {
	job := impl.Job{Arg: "q"}
	for _, c := range []struct {
		src     string
		replies []impl.Reply
		want    impl.Turn
	}{
		// A tool has its own arg, and the caller has its own again behind it.
		{mainOf("return tool(\"t\", \"z\") + arg();"), given(mainOf("return arg();")), done("zq", 4)},
		{mainOf("return arg() + tool(\"t\", arg() + arg()) + arg();"), given(mainOf("return arg() + \"!\";")), done("qqq!q", 4)},
		{mainOf("return tool(\"t\", \"\");"), given(mainOf("return arg();")), done("", 4)},
		{mainOf("return tool(\"t\", read(\"a\"));"), given(xs(3000), mainOf("return arg();")), done(xs(3000), 4)},
		{mainOf("return f() + arg();") + " fn f() -> text { return tool(\"t\", \"z\") + arg(); }", given("fn f() -> text { return arg() + \"f\"; } " + mainOf("return f() + arg();")), done("zfzqq", 8)},
		// Tools within tools, one behind the other, and one as the arg of another.
		{mainOf("return tool(\"t\", \"1\") + arg();"), given(mainOf("return tool(\"u\", arg() + \"2\") + arg();"), mainOf("return tool(\"v\", arg() + \"3\") + arg();"), mainOf("return arg() + \"4\";")), done("1234121q", 8)},
		{mainOf("return tool(\"t\", \"1\") + tool(\"u\", \"2\") + arg();"), given(mainOf("return arg() + \"t\";"), mainOf("return arg() + \"u\";")), done("1t2uq", 6)},
		{mainOf("return tool(\"t\", tool(\"u\", \"1\"));"), given(mainOf("return arg() + \"u\";"), mainOf("return arg() + \"t\";")), done("1ut", 6)},
		{mainOf("return tool(tool(\"u\", \"1\"), \"2\");"), given(mainOf("return arg() + \"u\";"), mainOf("return arg() + \"t\";")), done("2t", 6)},
		// Functions are its own: the same names are others in it, and it sees none of the caller's.
		{"fn f() -> text { return \"f\"; } " + mainOf("return f() + tool(\"t\", \"\") + f();"), given("fn f() -> text { return \"g\"; } " + mainOf("return f();")), done("fgf", 10)},
		{"fn f() -> text { return \"f\"; } " + mainOf("return tool(\"t\", \"\");"), given(mainOf("return f();")), ended(impl.Broken, "tool in main", 2)},
		{mainOf("let a = \"a\"; let b = tool(\"t\", \"\"); return a + b;"), given(mainOf("let b = 1; let a = b + 1; return dec(a);")), done("a2", 8)},
		// A tool's main may call itself, and only its own.
		{mainOf("return tool(\"t\", \"z\") + arg();"), []impl.Reply{{Text: mainOf("if has(\"x\") { return \"in\"; } return main() + arg();")}, goneReply, goneReply, belowReply}, done("inzzq", 11)},
		// The name of a tool is that of a file, which may be anything.
		{mainOf("return tool(\"main\", \"\");"), given(mainOf("return \"r\";")), done("r", 4)},
		// What ends a tool ends the run.
		{mainOf("say tool(\"t\", \"\"); return \"r\";"), given(mainOf("fail arg() + \"f\";")), ended(impl.Failed, "f", 4)},
		{mainOf("say tool(\"t\", \"\"); return \"r\";"), []impl.Reply{{Text: mainOf("return read(\"x\");")}, goneReply}, ended(impl.Missing, "x", 4)},
		{mainOf("say tool(\"t\", \"\"); return \"r\";"), []impl.Reply{{Text: mainOf("return read(\"x\");")}, belowReply}, ended(impl.Below, "x", 4)},
		{mainOf("say tool(\"t\", \"\"); return \"r\";"), given(mainOf("while true { } return \"\";")), ended(impl.Spent, "", 4000)},
		{mainOf("while true { say tool(\"t\", \"\"); break; } return \"r\";"), given(mainOf("while true { return \"s\"; } return \"\";")), impl.Turn{Over: true, Text: "r", Steps: 10, Said: []string{"s"}}},
		// It waits within a tool, and behind it.
		{mainOf("return tool(\"t\", \"\") + read(\"c\");"), given(mainOf("if has(\"x\") { } return list(\"y\");")), waits(impl.LookHas, "x", 4)},
		{mainOf("return tool(\"t\", \"\") + read(\"c\");"), given(mainOf("if has(\"x\") { } return list(\"y\");"), ""), waits(impl.LookList, "y", 5)},
		{mainOf("return tool(\"t\", \"\") + read(\"c\");"), given(mainOf("if has(\"x\") { } return list(\"y\");"), "", "l"), waits(impl.LookRead, "c", 5)},
		{mainOf("return tool(\"t\", \"\") + read(\"c\");"), given(mainOf("if has(\"x\") { } return list(\"y\");"), "", "l", "c"), done("lc", 5)},
		{mainOf("return tool(\"t\", \"\");"), given(mainOf("return tool(\"u\", \"\");")), waits(impl.LookRead, "u", 4)},
		// What it returns may break the caller.
		{mainOf("return tool(\"t\", \"\") + \"x\";"), given(mainOf("return read(\"a\");"), xs(3000)), ended(impl.Broken, "long in main", 4)},
	} {
		wantTurn(t, c.src, job, c.replies, c.want)
	}
}

// Files, what is said, and the Outs of a tool are those of the run.
func TestMeanToolsShare(t *testing.T) {
	job := outs("o", "p")
	file := func(name, text string) impl.File { return impl.File{Name: name, Text: text} }
	both := []impl.File{file("o", "1"), file("p", "2")}
	wantTurn(t, mainOf("write \"o\", \"1\"; return tool(\"t\", \"2\");"), job, given(mainOf("write \"p\", arg(); return \"\";")), impl.Turn{Over: true, Steps: 6, Files: both})
	wantTurn(t, mainOf("say tool(\"t\", \"2\"); write \"o\", \"1\"; return \"\";"), job, given(mainOf("write \"o\", \"x\"; write \"p\", arg(); return \"s\";")), impl.Turn{Over: true, Steps: 8, Files: both, Said: []string{"s"}})
	wantTurn(t, mainOf("write \"o\", \"x\"; say tool(\"t\", \"2\"); return \"\";"), job, given(mainOf("write \"o\", \"1\"; write \"p\", arg(); return \"s\";")), impl.Turn{Over: true, Steps: 8, Files: both, Said: []string{"s"}})
	// A tool whose main returns need not have written all: only the first main is asked.
	wantTurn(t, mainOf("say tool(\"t\", \"\"); write \"p\", \"2\"; return \"\";"), job, given(mainOf("write \"o\", \"1\"; return \"\";")), impl.Turn{Over: true, Steps: 7, Files: both, Said: []string{""}})
	wantTurn(t, mainOf("say tool(\"t\", \"\"); return \"\";"), job, given(mainOf("write \"o\", \"1\"; return \"\";")), impl.Turn{Over: true, Code: impl.Broken, Text: "lacks p", Steps: 6, Said: []string{""}})
	wantTurn(t, mainOf("say tool(\"t\", \"\"); return \"\";"), job, given(mainOf("write \"q\", \"1\"; return \"\";")), ended(impl.Broken, "output in main", 4))
	// What is said goes on where the caller stood, up to the run's end of it.
	says := mainOf("say \"1\"; say tool(\"t\", \"\"); say \"4\"; return \"\";")
	wantTurn(t, says, impl.Job{}, given(mainOf("say \"2\"; return \"3\";")), impl.Turn{Over: true, Steps: 8, Said: []string{"1", "2", "3", "4"}})
	most := strings.Repeat("say \"s\"; ", 49)
	said := slices.Repeat([]string{"s"}, 49)
	tool := mainOf("say \"t\"; return \"\";")
	wantTurn(t, mainOf(most+"return tool(\"t\", \"\");"), impl.Job{}, given(tool), impl.Turn{Over: true, Steps: 54, Said: append(slices.Clone(said), "t")})
	wantTurn(t, mainOf(most+"say tool(\"t\", \"\"); return \"\";"), impl.Job{}, given(tool), impl.Turn{Over: true, Code: impl.Broken, Text: "said in main", Steps: 54, Said: append(slices.Clone(said), "t")})
	inG := "fn g() { say \"t\"; say \"u\"; } " + mainOf("g(); return \"\";")
	wantTurn(t, mainOf(most+"return tool(\"t\", \"\");"), impl.Job{}, given(inG), impl.Turn{Over: true, Code: impl.Broken, Text: "said in g", Steps: 56, Said: append(slices.Clone(said), "t")})
}

// Replies that are left over play no part, whatever they are, as long as they are valid.
func TestMeanLeftOver(t *testing.T) {
	for _, c := range []struct {
		src   string
		first []impl.Reply
		want  impl.Turn
	}{
		{mainOf("return \"r\";"), nil, done("r", 2)},
		{mainOf("return read(\"a\");"), given("r"), done("r", 2)},
		{mainOf("return read(\"a\");"), []impl.Reply{goneReply}, ended(impl.Missing, "a", 2)},
		{mainOf("return tool(\"a\", \"\");"), given("r"), ended(impl.Broken, "tool in main", 2)},
		{mainOf("fail list(\"\");"), given("f"), ended(impl.Failed, "f", 2)},
		{mainOf("while true { } return \"\";"), nil, ended(impl.Spent, "", 4000)},
	} {
		for _, more := range [][]impl.Reply{given("x"), {goneReply}, {belowReply}, given("", xs(3000), mainOf("return \"\";")), slices.Repeat(given("y"), 100-len(c.first))} {
			wantTurn(t, c.src, impl.Job{}, append(slices.Clone(c.first), more...), c.want)
		}
		tooMany := append(slices.Clone(c.first), slices.Repeat(given("y"), 101-len(c.first))...)
		wantTurn(t, c.src, impl.Job{}, tooMany, impl.Turn{Code: impl.NotValid})
		wantTurn(t, c.src, impl.Job{}, append(slices.Clone(c.first), impl.Reply{Code: 1}), impl.Turn{Code: impl.NotValid})
	}
}

func TestValidJobs(t *testing.T) {
	var names []string
	for i := range 21 {
		names = append(names, fmt.Sprintf("o%02d", i))
	}
	src := mainOf("if has(\"a\") { } return \"\";")
	for _, c := range []struct {
		job   impl.Job
		right bool
	}{
		{impl.Job{}, true},
		{impl.Job{Arg: "\x00\xff \n", Outs: []string{}}, true},
		{impl.Job{Arg: xs(3000)}, true},
		{impl.Job{Arg: xs(3001)}, false},
		{outs("a"), true},
		{outs("a", "b"), true},
		{outs("A", "a", "aa", "ab", "b"), true},
		{outs("!", "~"), true},
		{outs("a", "a"), false},
		{outs("b", "a"), false},
		{outs("ab", "a"), false},
		{outs("a", "c", "b"), false},
		{outs("a", "b", "b"), false},
		{outs(""), false},
		{outs("", "a"), false},
		{outs("a", ""), false},
		{outs(" "), false},
		{outs("a b"), false},
		{outs("a", "b\n"), false},
		{outs("a\x7f"), false},
		{outs("\x80"), false},
		{outs(xs(60)), true},
		{outs(xs(61)), false},
		{outs(xs(59), xs(60)), true},
		{outs(xs(60), xs(61)), false},
		{outs(names[:20]...), true},
		{outs(names...), false},
		{impl.Job{Arg: xs(3001), Outs: []string{"a"}}, false},
		{impl.Job{Arg: xs(3000), Outs: names[:20]}, true},
	} {
		if got := impl.ValidJob(c.job); got != c.right {
			t.Errorf("%.100q: %v", c.job, got)
		}
		want := impl.Turn{Code: impl.NotValid}
		if c.right {
			want = waits(impl.LookHas, "a", 2)
		}
		wantTurn(t, src, c.job, nil, want)
	}
}

func TestValidReplies(t *testing.T) {
	src := mainOf("say list(\"a\"); return list(\"b\");")
	for _, c := range []struct {
		reply impl.Reply
		right bool
	}{
		{impl.Reply{}, true},
		{impl.Reply{Text: "\x00\xff \n"}, true},
		{impl.Reply{Text: xs(3000)}, true},
		{impl.Reply{Text: xs(3001)}, false},
		{impl.Reply{Code: 4}, true},
		{impl.Reply{Code: 5}, true},
		{impl.Reply{Code: 4, Text: "x"}, false},
		{impl.Reply{Code: 5, Text: "x"}, false},
		{impl.Reply{Code: 1}, false},
		{impl.Reply{Code: 2}, false},
		{impl.Reply{Code: 3}, false},
		{impl.Reply{Code: 6}, false},
		{impl.Reply{Code: 9}, false},
		{impl.Reply{Code: -1}, false},
		{impl.Reply{Code: 4 + 1<<32}, false},
		{impl.Reply{Code: 1 << 62}, false},
		{impl.Reply{Code: 1, Text: "x"}, false},
	} {
		if got := impl.ValidReply(c.reply); got != c.right {
			t.Errorf("%.100q: %v", fmt.Sprint(c.reply), got)
		}
		for _, replies := range [][]impl.Reply{{c.reply}, {c.reply, {}}, {{}, c.reply}, {{}, {}, c.reply}} {
			got := checkMean(t, parsed(t, src), impl.Job{}, replies)
			if c.right != (got.Code != impl.NotValid) {
				t.Errorf("%.100q: %.100v", fmt.Sprint(replies), got)
			}
		}
	}
}

// A tree that does not fit is not run, whatever of it would be done.
func TestMeanUnfit(t *testing.T) {
	for _, src := range []string{
		"fn f() { }",
		"fn main() { }",
		"fn main() -> text { }",
		"fn main(a text) -> text { return a; }",
		mainOf("return 1;"),
		mainOf("return \"\"; let a = 1 + 1u8;"),
		mainOf("if false { let a = b; } return \"\";"),
		mainOf("return \"\"; break;"),
		"fn f() -> u8 { } " + mainOf("return \"\";"),
		"fn f() { } fn f() { } " + mainOf("return \"\";"),
		"fn f() { g(); } " + mainOf("return \"\";"),
		mainOf("return read(1);"),
	} {
		wantTurn(t, src, impl.Job{}, nil, impl.Turn{Code: impl.NotValid})
		wantTurn(t, src, outs("b", "a"), given("x"), impl.Turn{Code: impl.NotValid})
	}
	right := parsed(t, mainOf("return \"\";"))
	wrong := []impl.Tree{{}, {Nodes: []impl.Node{}}, {Nodes: []impl.Node{{}}}, {Nodes: right.Nodes[:len(right.Nodes)-1]}, {Nodes: right.Nodes[1:]}}
	for i := range right.Nodes {
		for _, bend := range []func(n *impl.Node){func(n *impl.Node) { n.Kids += 1 << 40 }, func(n *impl.Node) { n.Kids = -1 }, func(n *impl.Node) { n.Kind = 25 }, func(n *impl.Node) { n.N = 7 }} {
			bent := slices.Clone(right.Nodes)
			bend(&bent[i])
			wrong = append(wrong, impl.Tree{Nodes: bent})
		}
	}
	for _, tree := range wrong {
		if got := impl.Mean(tree, impl.Job{}, nil); !sameTurn(got, impl.Turn{Code: impl.NotValid}) {
			t.Errorf("%+v: %+v", tree, got)
		}
	}
}

// P7 where folding has much to do: what is folded away is no step, no look and no word.
func TestMeanFolded(t *testing.T) {
	for _, src := range []string{
		mainOf("if 1 + 1 == 2 && has(\"a\" + \"b\") { return \"x\" + \"y\"; } return dec(3 * 4);"),
		mainOf("while true || 1 / 0 == 1 { if false && read(\"a\") == \"\" { } else { break; } } return cut(\"abc\", 1, 2);"),
		mainOf("let a = 1 - 2; let b = 7 / (1 - 1); return \"\";"),
		mainOf("let a = true && 1 / 0 == 1; return \"\";"),
		mainOf("let a = at(\"ab\", 1 + 1); return \"\";"),
		mainOf("write \"a\" + \"b\", \"c\" + dec(1u8 - 2u8); return tool(\"t\" + \"u\", dec(len(\"abc\")));"),
		mainOf("say chr(65u8) + \"" + xs(1500) + "\" + \"" + xs(1499) + "\"; say chr(65u8) + \"" + xs(1500) + "\" + \"" + xs(1500) + "\"; return \"\";"),
		"fn f(a bool) -> bool { return false || a; } " + mainOf("if f(true && true) { return dec(num(\"12\") + 1); } return \"\";"),
	} {
		tree := parsed(t, src)
		if same(impl.Fold(tree), tree) {
			t.Errorf("%q: nothing is folded", src)
		}
		for _, replies := range [][]impl.Reply{nil, given("x", "y"), {goneReply}, {belowReply}, given(mainOf("return arg();"))} {
			checkMean(t, tree, outs("ab"), replies)
			checkMean(t, tree, impl.Job{}, replies)
		}
	}
}

// textsOf are all texts of a turn.
func textsOf(turn impl.Turn) []string {
	list := append([]string{turn.Text, turn.Name}, turn.Said...)
	for _, file := range turn.Files {
		list = append(list, file.Name, file.Text)
	}
	return list
}

func isShared(a, b string) bool {
	if a == "" || b == "" {
		return false
	}
	where := func(s string) uintptr { return uintptr(unsafe.Pointer(unsafe.StringData(s))) }
	return where(a) < where(b)+uintptr(len(b)) && where(b) < where(a)+uintptr(len(a))
}

// What is answered is new memory, and what was given stays as it is.
func TestMeanOwnMemory(t *testing.T) {
	for _, statements := range []string{
		"return arg();", "return read(\"name\");", "return \"name\";", "fail \"name\";", "return read(\"name\") + read(\"other\");", "return cut(arg(), 1, 3);",
		"say arg(); say read(\"name\"); say \"name\"; return \"name\";", "if has(\"no\" + \"name\") { } return read(\"name\");", "if has(\"name\") { } return read(\"missing\");",
	} {
		src := mainOf("write \"out\", arg(); write \"put\", list(\"name\"); " + statements)
		tree := parsed(t, src)
		tree.Nodes = append(make([]impl.Node, 0, 500), tree.Nodes...)
		job := impl.Job{Arg: strings.Repeat("arg", 3), Outs: append(make([]string, 0, 9), "out", "put")}
		replies := append(make([]impl.Reply, 0, 9), given(strings.Repeat("list", 2), strings.Repeat("text", 2), strings.Repeat("last", 2))...)
		replies[2] = goneReply
		var args []string
		for _, n := range tree.Nodes {
			args = append(args, n.Text)
		}
		for _, reply := range replies {
			args = append(args, reply.Text)
		}
		args = append(args, job.Arg, job.Outs[0], job.Outs[1])
		for k := range 4 {
			nodes, names, before := slices.Clone(tree.Nodes), slices.Clone(job.Outs[:9]), slices.Clone(replies[:9])
			got := impl.Mean(tree, job, replies[:k])
			if !slices.Equal(tree.Nodes, nodes) || !slices.Equal(job.Outs[:9], names) || !slices.Equal(replies[:9], before) {
				t.Fatalf("%q with %d replies: an argument was changed", statements, k)
			}
			texts := textsOf(got)
			for i, text := range texts {
				if slices.ContainsFunc(args, func(arg string) bool { return isShared(text, arg) }) {
					t.Errorf("%q with %d replies: %q is shared with an argument", statements, k, text)
				}
				if slices.ContainsFunc(texts[:i], func(other string) bool { return isShared(text, other) }) {
					t.Errorf("%q with %d replies: %q is shared with another text", statements, k, text)
				}
			}
		}
	}
}
