package tests

import (
	"fmt"
	"strings"
	"testing"

	"loop.example/kilnmill/impl"
)

// talk is a session: each line with what it is answered.
type talk [][2]string

func (k talk) text() string {
	var b strings.Builder
	for _, pair := range k {
		b.WriteString(pair[0] + "\n")
	}
	return b.String()
}

func (k talk) answers() string {
	var b strings.Builder
	for _, pair := range k {
		b.WriteString(pair[1] + "\n")
	}
	return b.String()
}

func wantAnswers(t *testing.T, what, text, want string) {
	t.Helper()
	got := impl.Session(text)
	if got == want {
		return
	}
	lines, answers, wants := strings.Split(text, "\n"), strings.Split(got, "\n"), strings.Split(want, "\n")
	for i, line := range lines {
		a, b := "(nothing)", "(nothing)"
		if i < len(answers) {
			a = answers[i]
		}
		if i < len(wants) {
			b = wants[i]
		}
		if a != b {
			t.Errorf("%s, line %d: %.300q: %.300q, want %.300q", what, i, line, a, b)
			return
		}
	}
	t.Errorf("%s: %.300q, want %.300q", what, got, want)
}

// wantTalk holds a session against its answers, against the second way, without its last newline, and cut off behind each line (P18).
func wantTalk(t *testing.T, what string, k talk) {
	t.Helper()
	wantAnswers(t, what, k.text(), k.answers())
	wantAnswers(t, what+" by the second way", k.text(), modelSession(k.text()))
	for i := range k {
		if t.Failed() {
			return
		}
		begin := k[:i+1]
		wantAnswers(t, what+", its beginning", begin.text(), begin.answers())
		if begin[i][0] != "" {
			wantAnswers(t, what+", without the last newline", strings.TrimSuffix(begin.text(), "\n"), begin.answers())
		}
	}
}

// fileLine is the line that lays a file.
func fileLine(name, text string) string { return "file " + name + " " + quoted(text) }

func TestSessionExample(t *testing.T) {
	wantTalk(t, "the example", talk{
		{`file t "fn main() -> text { write \22out\22, read(arg()) + \22!\22; return \22ok\22; }"`, "code 0"},
		{`file a "hello"`, "code 0"},
		{"look t", "fits"},
		{`act t out "a"`, `0 "ok" steps 3 looks 2`},
		{"show out", `"hello!"`},
		{"holds", "yes"},
		{`file a "else"`, "code 0"},
		{"holds", "no"},
		{`act t "b"`, `4 "b" steps 2 looks 2`},
	})
}

func TestSessionFiles(t *testing.T) {
	all := make([]byte, 256)
	for i := range all {
		all[i] = byte(i)
	}
	wantTalk(t, "file, drop and show", talk{
		{"show a", "none"},
		{"drop a", "none"},
		{`file a "1"`, "code 0"},
		{"show a", `"1"`},
		{`file a ""`, "code 0"},
		{"show a", `""`},
		{`file b " 2  \0a\22\5c\7f\80\ff "`, "code 0"},
		{"show b", `" 2  \0a\22\5c\7f\80\ff "`},
		{"drop a", "ok"},
		{"drop a", "none"},
		{"show a", "none"},
		{"show b", `" 2  \0a\22\5c\7f\80\ff "`},
		{fileLine("all", string(all)), "code 0"},
		{"show all", quoted(string(all))},
		{"drop none", "none"},
		{"show ab", "none"},
		{fileLine("long", xs(3000)), "code 0"},
		{fileLine("long", xs(3001)), "code 1"},
		{"show long", quoted(xs(3000))},
		{fileLine("longer", xs(3001)), "code 1"},
		{"show longer", "none"},
		{fileLine(xs(60), "p"), "code 0"},
		{fileLine(xs(61), "p"), "code 1"},
		{"show " + xs(60), `"p"`},
		{"show " + xs(61), "none"},
		{"drop " + xs(61), "none"},
		{fileLine("x\x7f", ""), "code 1"},
		{fileLine("x\xff", ""), "code 1"},
		{fileLine("x\t", ""), "code 1"},
		{"show x\x7f", "none"},
		{"drop x\r", "none"},
		// A quote is a byte of a name as others are, but for the first one behind a space.
		{`file a"b "q"`, "code 0"},
		{`show a"b`, `"q"`},
		{`file a"b" "q2"`, "code 0"},
		{`show a"b"`, `"q2"`},
		{`drop a"b"`, "ok"},
		{`show a"b`, `"q"`},
		{`file \22 "q"`, "code 0"},
		{`show \22`, `"q"`},
		{`show "`, "bad"},
		{`show "a"`, "bad"},
	})
}

func TestSessionFull(t *testing.T) {
	src := mainOf("write \"n\", \"1\"; write \"t\", \"2\"; return \"r\";")
	one := mainOf("write \"f00\", \"1\"; write \"t\", arg(); return \"r\";")
	k := talk{{fileLine("t", src), "code 0"}}
	for i := range 39 {
		k = append(k, [2]string{fmt.Sprintf("file f%02d \"\"", i), "code 0"})
	}
	k = append(k, talk{
		{`file n "1"`, "code 2"},
		{"show n", "none"},
		{`file f07 "7"`, "code 0"},
		{"show f07", `"7"`},
		// What can't be laid leaves all as it is: the file that is there already, too.
		{`act t n t ""`, `0 "r" steps 4 looks 1`},
		{"show n", "none"},
		{"show t", quoted(src)},
		{"holds", "yes"},
		{"drop f38", "ok"},
		{`act t n t ""`, `0 "r" steps 4 looks 1`},
		{"show n", `"1"`},
		{"show t", `"2"`},
		{"holds", "no"},
		{`file f38 ""`, "code 2"},
		// Where nothing new comes in, a full place is no matter.
		{fileLine("t", one), "code 0"},
		{`act t f00 t "z"`, `0 "r" steps 4 looks 1`},
		{"show f00", `"1"`},
		{"show t", `"z"`},
	}...)
	wantTalk(t, "a full place", k)
}

func TestSessionLook(t *testing.T) {
	deep := mainOf("return " + strings.Repeat("-", 58) + "1;")
	wantTalk(t, "look", talk{
		{"look t", "none"},
		{"look x\x7f", "none"},
		{fileLine("t", inMain("")), "code 0"},
		{"look t", "fits"},
		{`file t ""`, "code 0"},
		{"look t", "fault 7 0"},
		{`file t "fn ?"`, "code 0"},
		{"look t", "fault 2 3"},
		{`file t "fn 01"`, "code 0"},
		{"look t", "fault 3 3"},
		{`file t " \22"`, "code 0"},
		{"look t", "fault 4 1"},
		{fileLine("t", "  "+xs(31)), "code 0"},
		{"look t", "fault 5 2"},
		{`file t "fn main() ->"`, "code 0"},
		{"look t", "fault 6 12"},
		{`file t "fn main() -> x"`, "code 0"},
		{"look t", "fault 6 13"},
		{fileLine("t", deep), "code 0"},
		{"look t", "fault 7 0"},
		{fileLine("t", inMain("")+inMain("")), "code 0"},
		{"look t", "unfit 1 7"},
		{fileLine("t", inMain("let a = 1; let a = 2;")), "code 0"},
		{"look t", "unfit 2 3"},
		{fileLine("t", mainOf("return a;")), "code 0"},
		{"look t", "unfit 3 0"},
		{fileLine("t", mainOf("return f();")), "code 0"},
		{"look t", "unfit 4 0"},
		{fileLine("t", mainOf("return 1 + \"\";")), "code 0"},
		{"look t", "unfit 5 2"},
		{fileLine("t", inMain("break;")), "code 0"},
		{"look t", "unfit 6 0"},
		{fileLine("t", mainOf("return;")), "code 0"},
		{"look t", "unfit 7 0"},
		{fileLine("t", mainOf("")), "code 0"},
		{"look t", "unfit 8 1"},
		{`file t "fn f() { }"`, "code 0"},
		{"look t", "unfit 10 2"},
		{"show t", `"fn f() { }"`},
	})
}

// tight is a program whose tight text has so few bytes that Print of it may be too long.
func tight(statements string) string { return "fn main()->text{" + statements + "return\"\";}" }

func TestSessionPrintAndFold(t *testing.T) {
	exact := func(size int) string { return "fn main()->text{return\"" + xs(size-35) + "\";}" }
	spread := tight(strings.Repeat("say dec(1+1);", 200))
	inner := strings.Repeat("f();", 200)
	for range 27 {
		inner = "if true{" + inner + "}"
	}
	huge := tight(inner) + "fn f(){}"
	wantTalk(t, "print and fold", talk{
		{"print t", "no"},
		{"fold t", "no"},
		{"print x\x7f", "no"},
		{`file t "fn"`, "code 0"},
		{"print t", "no"},
		{"fold t", "no"},
		{"show t", `"fn"`},
		{fileLine("t", mainOf("return 1;")), "code 0"},
		{"print t", "no"},
		{"fold t", "no"},
		{"show t", quoted(mainOf("return 1;"))},
		{`file t "fn main()->text{if 1+1==2&&has(\22a\22){return(\22b\22+\22c\22);}return arg();} # c"`, "code 0"},
		{`file u "fn main()->text{if 1+1==2&&has(\22a\22){return(\22b\22+\22c\22);}return arg();} # c"`, "code 0"},
		{"print t", "ok"},
		{"show t", `"fn main() -> text {\0a  if ((1 + 1) == 2) && has(\22a\22) {\0a    return \22b\22 + \22c\22;\0a  }\0a  return arg();\0a}\0a"`},
		{"print t", "ok"},
		{"show t", `"fn main() -> text {\0a  if ((1 + 1) == 2) && has(\22a\22) {\0a    return \22b\22 + \22c\22;\0a  }\0a  return arg();\0a}\0a"`},
		{"fold t", "ok"},
		{"show t", `"fn main() -> text {\0a  if has(\22a\22) {\0a    return \22bc\22;\0a  }\0a  return arg();\0a}\0a"`},
		{"fold u", "ok"},
		{"show u", `"fn main() -> text {\0a  if has(\22a\22) {\0a    return \22bc\22;\0a  }\0a  return arg();\0a}\0a"`},
		{"fold u", "ok"},
		{"print u", "ok"},
		{"show u", `"fn main() -> text {\0a  if has(\22a\22) {\0a    return \22bc\22;\0a  }\0a  return arg();\0a}\0a"`},
	})
	if size := len(impl.Print(parsed(t, spread))); size <= impl.MaxText || size > impl.MaxSrc || len(spread) > impl.MaxText {
		t.Fatalf("%d to %d", len(spread), size)
	}
	if impl.Print(parsed(t, huge)) != "" || impl.Check(parsed(t, huge)) != (impl.Fault{}) || len(huge) > impl.MaxText {
		t.Fatal(len(huge))
	}
	wantTalk(t, "too long", talk{
		{fileLine("t", spread), "code 0"},
		{"print t", "no"},
		{"look t", "fits"},
		{"show t", quoted(spread)},
		{"fold t", "ok"},
		{"show t", quoted("fn main() -> text {\n" + strings.Repeat("  say \"2\";\n", 200) + "  return \"\";\n}\n")},
		{fileLine("h", huge), "code 0"},
		{"print h", "no"},
		{"fold h", "no"},
		{"look h", "fits"},
	})
	wantTalk(t, "met exactly", talk{
		{fileLine("t", exact(3000)), "code 0"},
		{"print t", "ok"},
		{"show t", quoted(impl.Print(parsed(t, exact(3000))))},
	})
	wantTalk(t, "one more", talk{
		{fileLine("t", exact(3001)), "code 0"},
		{"print t", "no"},
		{"fold t", "no"},
		{"show t", quoted(exact(3001))},
	})
	if size := len(impl.Print(parsed(t, exact(3000)))); size != impl.MaxText {
		t.Errorf("%d bytes", size)
	}
}

func TestSessionCode(t *testing.T) {
	// mill1, 1; main, no parameters, text, no slots, 3 instructions; InsStep, InsPush text of 1 byte, InsReturn 1.
	bytes := 5 + 1 + 5 + 1 + 1 + 1 + 1 + 1 + (2 + 2) + 2
	wantTalk(t, "code", talk{
		{"code t", "no"},
		{"code x\x7f", "no"},
		{fileLine("t", mainOf("return \"x\";")), "code 0"},
		{"code t", fmt.Sprintf("1 functions 3 instructions %d bytes", bytes)},
		{fileLine("t", mainOf("return \"x\";")+"fn f(){}"), "code 0"},
		// f, no parameters, no result, no slots, 1 instruction: InsReturn 0.
		{"code t", fmt.Sprintf("2 functions 4 instructions %d bytes", bytes+2+1+1+1+1+2)},
		{`file t "fn"`, "code 0"},
		{"code t", "no"},
		{`file t "fn f() { }"`, "code 0"},
		{"code t", "no"},
		{"show t", `"fn f() { }"`},
	})
}

func TestSessionAct(t *testing.T) {
	wantTalk(t, "act", talk{
		{`act t ""`, `4 "t" steps 0 looks 1`},
		{`file t "fn"`, "code 0"},
		{`act t ""`, `2 "tool" steps 0 looks 1`},
		{fileLine("t", mainOf("return arg();")), "code 0"},
		{`act t ""`, `0 "" steps 2 looks 1`},
		{`act t "a \22b\22\0a"`, `0 "a \22b\22\0a" steps 2 looks 1`},
		{`act t o ""`, `2 "lacks o" steps 2 looks 1`},
		{fileLine("t", mainOf("fail arg();")), "code 0"},
		{`act t "f"`, `1 "f" steps 2 looks 1`},
		{fileLine("t", mainOf("while true { } return \"\";")), "code 0"},
		{`act t ""`, `3 "" steps 4000 looks 1`},
		{fileLine("t", mainOf("return read(arg()) + read(arg());")), "code 0"},
		{`act t "a"`, `4 "a" steps 2 looks 2`},
		{`act t ""`, `2 "name in main" steps 2 looks 1`},
		{`file a "1"`, "code 0"},
		{`act t "a"`, `0 "11" steps 2 looks 3`},
		{fileLine("t", mainOf("write \"o\", arg(); write \"p\", arg() + \"!\"; return tool(\"u\", arg());")), "code 0"},
		{fileLine("u", mainOf("write \"a\", arg(); return list(\"\");")), "code 0"},
		{`act t a o p "z"`, `0 "a\0at\0au\0a" steps 7 looks 3`},
		{"show a", `"z"`},
		{"show o", `"z"`},
		{"show p", `"z!"`},
		// No file with another code than 0, though some were written.
		{`act t a o "y"`, `2 "output in main" steps 3 looks 1`},
		{`act t a o p q "y"`, `2 "lacks q" steps 7 looks 3`},
		{"show o", `"z"`},
		{"show q", "none"},
	})
	outs20 := strings.Split("a b c d e f g h i j k l m n o p q r s u", " ")
	wantTalk(t, "act with Code 9", talk{
		{fileLine("t", mainOf("return \"r\";")), "code 0"},
		{`act x` + "\x7f" + ` ""`, `9 "" steps 0 looks 0`},
		{`act ` + xs(61) + ` ""`, `9 "" steps 0 looks 0`},
		{`act t b a ""`, `9 "" steps 0 looks 0`},
		{`act t a a ""`, `9 "" steps 0 looks 0`},
		{`act t ` + "a\t" + ` ""`, `9 "" steps 0 looks 0`},
		{"act t " + quoted(xs(3001)), `9 "" steps 0 looks 0`},
		{"act t " + quoted(xs(3000)), `0 "r" steps 2 looks 1`},
		{"act t " + quoted(strings.Repeat("\n", 3000)), `0 "r" steps 2 looks 1`},
		{"act t " + strings.Join(outs20, " ") + ` ""`, `2 "lacks a" steps 2 looks 1`},
		{"act t " + strings.Join(outs20, " ") + ` v ""`, `9 "" steps 0 looks 0`},
		{`act none b a ""`, `9 "" steps 0 looks 0`},
	})
	// A program that writes itself anew, and one that is written by another.
	first := mainOf("write \"t\", read(\"next\"); return \"1\";")
	next := mainOf("return \"2\";")
	wantTalk(t, "act on programs", talk{
		{fileLine("t", first), "code 0"},
		{fileLine("next", next), "code 0"},
		{`act t t ""`, `0 "1" steps 3 looks 2`},
		{"holds", "no"},
		{`act t ""`, `0 "2" steps 2 looks 1`},
		{"holds", "yes"},
	})
}

func TestSessionSaidAndHolds(t *testing.T) {
	wantTalk(t, "said and holds", talk{
		// Ahead of any act.
		{"said", "-"},
		{"holds", "yes"},
		{fileLine("t", mainOf("say arg(); say \"\"; say \"-\" + arg(); if has(\"b\") { fail \"\"; } return list(\"l\") + read(\"a\");")), "code 0"},
		{`file a "1"`, "code 0"},
		{"said", "-"},
		{"holds", "yes"},
		{`act t "x \22"`, `0 "1" steps 6 looks 4`},
		{"said", `"x \22" "" "-x \22"`},
		{"said", `"x \22" "" "-x \22"`},
		{"holds", "yes"},
		// A line that is bad, and others that are none of act, leave it as it is.
		{"act t", "bad"},
		{`act  t ""`, "bad"},
		{"show a", `"1"`},
		{"said", `"x \22" "" "-x \22"`},
		// The looks, one by one: that of the program, read, has and list.
		{`file a "2"`, "code 0"},
		{"holds", "no"},
		{`file a "1"`, "code 0"},
		{"holds", "yes"},
		{`file b ""`, "code 0"},
		{"holds", "no"},
		{"drop b", "ok"},
		{"holds", "yes"},
		{`file l1 ""`, "code 0"},
		{"holds", "no"},
		{"drop l1", "ok"},
		{`file c ""`, "code 0"},
		{"holds", "yes"},
		{"print t", "ok"},
		{"holds", "no"},
		{"drop t", "ok"},
		{"holds", "no"},
		{`act t ""`, `4 "t" steps 0 looks 1`},
		{"said", "-"},
		{"holds", "yes"},
		{fileLine("t", mainOf("say \"s\"; fail \"f\";")), "code 0"},
		{"holds", "no"},
		{`act t ""`, `1 "f" steps 3 looks 1`},
		{"said", `"s"`},
		{"holds", "yes"},
		// Behind one with Code 9 nothing was said and nothing was seen.
		{`act t b a ""`, `9 "" steps 0 looks 0`},
		{"said", "-"},
		{"holds", "yes"},
		{"drop t", "ok"},
		{"holds", "yes"},
	})
	// What holds is asked of the place as it is once the files are laid.
	wantTalk(t, "holds behind act", talk{
		{fileLine("t", mainOf("write \"a\", read(\"a\") + \"!\"; return \"\";")), "code 0"},
		{`file a "1"`, "code 0"},
		{`act t a ""`, `0 "" steps 3 looks 2`},
		{"holds", "no"},
		{`file a "1"`, "code 0"},
		{"holds", "yes"},
	})
	many := mainOf("let i = 0; while i < num(arg()) { say dec(i); i = i + 1; } return \"\";")
	var all []string
	for i := range 50 {
		all = append(all, quoted(fmt.Sprint(i)))
	}
	wantTalk(t, "much said", talk{
		{fileLine("t", many), "code 0"},
		{`act t "0"`, `0 "" steps 5 looks 1`},
		{"said", "-"},
		{`act t "1"`, `0 "" steps 8 looks 1`},
		{"said", `"0"`},
		{`act t "50"`, `0 "" steps 155 looks 1`},
		{"said", strings.Join(all, " ")},
		{`act t "51"`, `2 "said in main" steps 155 looks 1`},
		{"said", strings.Join(all, " ")},
	})
}

// badLines are lines that are none of the table.
func badLines() []string {
	bad := []string{
		"", " ", "  ", "x", "File a \"x\"", "FILE a \"x\"", "filea \"x\"", "files a \"x\"", "fil a \"x\"", "saids", "hold", "act\t t \"\"", "said\r", "holds\t", "\x00", "#", "# said", "said;", "\xff",
		// Two spaces, and one at an end.
		"file  a \"x\"", "file a  \"x\"", " file a \"x\"", "file a \"x\" ", "  file a \"x\"", "drop  a", "drop a ", " drop a", "show  a", "show a ", " said", "said ", " holds", "holds ", "act  t \"\"", "act t  \"\"", "act t a  b \"\"", "act t  a \"\"", "act t \"\" ", "code a ", "print  a", " \"x\"", "  \"x\"",
		// A word too few or too many.
		"file", "file ", "file a", "file \"x\"", "file a b \"x\"", "file a b", "file a b c \"x\"", "drop", "drop a b", "drop a \"x\"", "drop \"x\"", "show", "show a b", "show a \"x\"", "show \"a\"", "look", "look a b", "look a \"\"", "print", "print a b", "print a \"\"", "fold", "fold a b", "fold a \"\"",
		"code", "code a b", "code a \"\"", "act", "act t", "act t a", "act \"\"", "act t a b", "said a", "said \"\"", "said a b", "holds a", "holds \"\"", "\"x\"", "x \"x\"", "\"file a", "\"file\" a \"x\"",
		"drop a \"", "said \"", "holds \"",
	}
	// A Q that is written in another way than Print writes it, is not closed, or has something behind it.
	for _, q := range []string{
		"\"", "\"x", "\"\\\"", "\"\\", "\"\\2", "\"\\22", "x\"", "x", "'x'", "\"x\"y", "\"x\"\"", "\"x\" \"y\"", "\"x\" y", "\"\"\"", "\"\"x", "\"x\"\r", "\"a \"b\"", "\"a\"b\"",
		"\"\\41\"", "\"\\20\"", "\"\\7e\"", "\"\\21\"", "\"\\23\"", "\"\\5b\"", "\"\\5d\"", "\"\\0A\"", "\"\\5C\"", "\"\\7F\"", "\"\\FF\"", "\"\\0\"", "\"\\0g\"", "\"\\n\"", "\"\\\\\"", "\"\\\"\"", "\"\\x0a\"", "\"\\ 0a\"", "\"\\a\"",
		"\"\t\"", "\"\x00\"", "\"\x7f\"", "\"\x80\"", "\"\u00e4\"", "\"\x1f\"", "\"ok\\0a\\41\"", "\"ok\\0a\x01\"",
	} {
		bad = append(bad, "file a "+q, "act t "+q, "act t o "+q)
	}
	// These are words where they stand.
	for i, line := range bad {
		if strings.HasPrefix(line, "act t o ") && line[8] != '"' {
			bad[i] = "act t o"
		}
	}
	return bad
}

func TestSessionBad(t *testing.T) {
	program := mainOf("write \"o\", \"new\"; say \"s\"; return arg();")
	begin := talk{{`file a "kept"`, "code 0"}, {fileLine("t", program), "code 0"}, {`file o "old"`, "code 0"}}
	end := talk{{"show a", `"kept"`}, {"show o", `"old"`}, {"said", "-"}, {"holds", "yes"}}
	for _, line := range badLines() {
		k := append(append(talk{}, begin...), [2]string{line, "bad"})
		k = append(k, end...)
		wantAnswers(t, "bad", k.text(), k.answers())
		wantAnswers(t, "bad by the second way", k.text(), modelSession(k.text()))
		if line != "" {
			wantAnswers(t, "bad, as the only line", line, "bad\n")
		}
		wantAnswers(t, "bad, as the only line with a newline", line+"\n", "bad\n")
	}
}

func TestSessionLines(t *testing.T) {
	wantAnswers(t, "empty", "", "")
	wantAnswers(t, "a newline", "\n", "bad\n")
	wantAnswers(t, "two newlines", "\n\n", "bad\nbad\n")
	wantAnswers(t, "no newline at the end", "said", "-\n")
	wantAnswers(t, "a newline at the end", "said\n", "-\n")
	wantAnswers(t, "two newlines at the end", "said\n\n", "-\nbad\n")
	wantAnswers(t, "empty lines", "\nsaid\n\nholds", "bad\n-\nbad\nyes\n")
	wantAnswers(t, "another end of a line", "said\r\nholds\n", "bad\nyes\n")

	for _, c := range []struct {
		what, text, want string
	}{
		{"MaxLines", strings.Repeat("said\n", 400), strings.Repeat("-\n", 400)},
		{"MaxLines without the last newline", strings.Repeat("said\n", 399) + "said", strings.Repeat("-\n", 400)},
		{"MaxLines, all empty", strings.Repeat("\n", 400), strings.Repeat("bad\n", 400)},
		{"one more", strings.Repeat("said\n", 401), "too long\n"},
		{"one more without a newline", strings.Repeat("said\n", 400) + "s", "too long\n"},
		{"one more that is empty", strings.Repeat("said\n", 400) + "\n", "too long\n"},
		{"one more, all empty", strings.Repeat("\n", 401), "too long\n"},
		{"MaxSession in one line", "file a \"" + xs(20000-9) + "\"", "code 1\n"},
		{"MaxSession with a newline", "file a \"" + xs(20000-10) + "\"\n", "code 1\n"},
		{"MaxSession in lines", "said\nholds\nfile a \"" + xs(20000-20) + "\"", "-\nyes\ncode 1\n"},
		{"one byte more", "file a \"" + xs(20001-9) + "\"", "too long\n"},
		{"a newline more", "file a \"" + xs(20000-9) + "\"\n", "too long\n"},
		{"one byte more in lines", "said\nholds\nfile a \"" + xs(20001-20) + "\"", "too long\n"},
		{"much more", strings.Repeat("said\n", 100000), "too long\n"},
		{"a great line", xs(1000000), "too long\n"},
		{"MaxSession and MaxLines", strings.Repeat(xs(49)+"\n", 400), strings.Repeat("bad\n", 400)},
	} {
		wantAnswers(t, c.what, c.text, c.want)
		wantAnswers(t, c.what+" by the second way", c.text, modelSession(c.text))
	}
	// Each session begins with an empty place.
	for range 2 {
		wantAnswers(t, "again", "show a\nfile a \"1\"\nshow a\nsaid\n", "none\ncode 0\n\"1\"\n-\n")
	}
}

// What is answered is new memory.
func TestSessionOwnMemory(t *testing.T) {
	text := ownRoom("file a \"a text that is shown\"\nshow a\n")
	wantOwn(t, "Session", func() any { return impl.Session(text) }, text)
}
