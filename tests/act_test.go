package tests

import (
	"fmt"
	"slices"
	"strings"
	"testing"

	"loop.example/kilnmill/impl"
)

func sameActed(a, b impl.Acted) bool {
	return a.Code == b.Code && a.Text == b.Text && a.Steps == b.Steps && slices.Equal(a.Files, b.Files) && slices.Equal(a.Said, b.Said) && slices.Equal(a.Seen, b.Seen)
}

func wantSameActed(t *testing.T, what string, got, want impl.Acted) {
	t.Helper()
	if !sameActed(got, want) {
		t.Errorf("%.1500s:\n%.1000q\nwant\n%.1000q", what, fmt.Sprint(got), fmt.Sprint(want))
	}
}

// wantActed holds Act against what is wanted, and checkAct does so with all that is promised of it.
func wantActed(t *testing.T, p impl.Place, tool string, j impl.Job, want impl.Acted) {
	t.Helper()
	wantSameActed(t, fmt.Sprintf("%q %q in %q", tool, j, p), checkAct(t, p, tool, j), want)
}

func wantNotValid(t *testing.T, what string, got impl.Acted) {
	t.Helper()
	wantSameActed(t, what, got, impl.Acted{Code: impl.NotValid})
}

// seenBy is a look that is answered with Code 0 and this text.
func seenBy(kind int, name, text string) impl.Seen {
	return impl.Seen{Kind: kind, Name: name, Reply: impl.Reply{Text: text}}
}

// notSeen is a look that is answered with Code 4.
func notSeen(kind int, name string) impl.Seen {
	return impl.Seen{Kind: kind, Name: name, Reply: goneReply}
}

// laid is a place with more files.
func laid(t *testing.T, p impl.Place, namesAndTexts ...string) impl.Place {
	t.Helper()
	q, code := impl.Lay(p, filesOf(namesAndTexts...))
	if code != 0 {
		t.Fatalf("%.300q: code %d", namesAndTexts, code)
	}
	return q
}

// noPrograms are texts of at most MaxText bytes that are no programs that fit.
func noPrograms() []string {
	return []string{
		"", " ", "x", "fn", "fn main() -> text { return 1 }", "\x00", "fn main() -> text { return \"; }", xs(3000),
		"fn f() -> text { return \"\"; }", "fn main() { }", "fn main() -> u8 { return 1u8; }", "fn main(a text) -> text { return a; }",
		"fn main() -> text { }", mainOf("return 1;"), mainOf("return a;"), mainOf("return f();"), mainOf("break; return \"\";"),
		inMain("") + inMain(""), mainOf("return " + strings.Repeat("-", 58) + "1;"),
	}
}

// The program is the first that is looked at: it may not be there, or be none.
func TestActProgram(t *testing.T) {
	jobs := []impl.Job{{}, {Arg: "z"}, {Outs: []string{"o"}}, {Outs: []string{"t"}}}
	for _, j := range jobs {
		for _, p := range []impl.Place{{}, placeOf("a", "1"), placeOf("t/", "", "tt", inMain(""))} {
			wantActed(t, p, "t", j, impl.Acted{Code: impl.Missing, Text: "t", Seen: []impl.Seen{notSeen(impl.LookRead, "t")}})
		}
		for _, src := range noPrograms() {
			want := impl.Acted{Code: impl.Broken, Text: "tool", Seen: []impl.Seen{seenBy(impl.LookRead, "t", src)}}
			wantActed(t, placeOf("t", src), "t", j, want)
			wantActed(t, placeOf("a", "1", "t", src, "u", inMain("")), "t", j, want)
		}
	}
	// One that fits, under names and with a text at their ends.
	full := mainOf("return arg() + \"!\";")
	full += "#" + xs(3000-1-len(full))
	for _, name := range []string{"t", "!", "~", xs(60), "\"", "\\", "a/../b"} {
		wantActed(t, placeOf(name, full), name, impl.Job{Arg: "z"}, impl.Acted{Text: "z!", Steps: 2, Seen: []impl.Seen{seenBy(impl.LookRead, name, full)}})
	}
	wantActed(t, placeOf("t", full), "t", impl.Job{Arg: xs(2999)}, impl.Acted{Text: xs(2999) + "!", Steps: 2, Seen: []impl.Seen{seenBy(impl.LookRead, "t", full)}})
	wantActed(t, placeOf("t", full), "t", impl.Job{Arg: xs(3000)}, impl.Acted{Code: impl.Broken, Text: "long in main", Steps: 2, Seen: []impl.Seen{seenBy(impl.LookRead, "t", full)}})
}

// Each end of a run, with all that is told of it: the files with Code 0 alone, and then all of them.
func TestActEnds(t *testing.T) {
	before := "say \"s\"; write \"o\", \"w\" + read(\"a\"); "
	read := seenBy(impl.LookRead, "a", "1")
	for _, c := range []struct {
		statements string
		code       int
		text       string
		steps      int
		seen       []impl.Seen
	}{
		{"return \"r\";", impl.Done, "r", 4, nil},
		{"return \"\";", impl.Done, "", 4, nil},
		{"fail \"f\";", impl.Failed, "f", 4, nil},
		{"fail \"\";", impl.Failed, "", 4, nil},
		{"return dec(1 / 0);", impl.Broken, "divide in main", 4, nil},
		{"write \"q\", \"\"; return \"\";", impl.Broken, "output in main", 4, nil},
		{"write \"a\", \"\"; return \"\";", impl.Broken, "output in main", 4, nil},
		{"return read(\"a b\");", impl.Broken, "name in main", 4, nil},
		{"return tool(\"a\", \"\");", impl.Broken, "tool in main", 4, []impl.Seen{read}},
		{"return main();", impl.Broken, "deep in main", 160, slices.Repeat([]impl.Seen{read}, 39)},
		{"while true { } return \"\";", impl.Spent, "", 4000, nil},
		{"return read(\"b\");", impl.Missing, "b", 4, []impl.Seen{notSeen(impl.LookRead, "b")}},
		{"return tool(\"b\", \"\");", impl.Missing, "b", 4, []impl.Seen{notSeen(impl.LookRead, "b")}},
		{"return read(\"o\");", impl.Missing, "o", 4, []impl.Seen{notSeen(impl.LookRead, "o")}},
		{"return read(\"a\") + list(\"o\");", impl.Done, "1", 4, []impl.Seen{read, seenBy(impl.LookList, "o", "")}},
	} {
		src := mainOf(before + c.statements)
		want := impl.Acted{Code: c.code, Text: c.text, Steps: c.steps, Said: []string{"s"}}
		if c.code == impl.Done {
			want.Files = filesOf("o", "w1")
		}
		if c.text == "deep in main" {
			want.Said = slices.Repeat([]string{"s"}, 40)
		}
		want.Seen = append([]impl.Seen{seenBy(impl.LookRead, "t", src), read}, c.seen...)
		wantActed(t, placeOf("a", "1", "t", src), "t", outs("o"), want)
		// With one of Outs that is not written there is no file at all.
		if c.code == impl.Done {
			want.Code, want.Text, want.Files = impl.Broken, "lacks p", nil
		}
		wantActed(t, placeOf("a", "1", "t", src), "t", outs("o", "p"), want)
	}
	// Files that lie there already are written over by none but the one who lays them.
	src := mainOf("write \"o\", \"new\"; return read(\"o\");")
	p := placeOf("o", "old", "t", src)
	wantActed(t, p, "t", outs("o"), impl.Acted{Text: "old", Steps: 3, Files: filesOf("o", "new"), Seen: []impl.Seen{seenBy(impl.LookRead, "t", src), seenBy(impl.LookRead, "o", "old")}})
	// Written in any order, anew, and the program itself among them.
	src = mainOf("write \"t\", \"3\"; write \"o\", \"1\"; write \"p\", \"2\"; write \"o\", \"4\"; return \"\";")
	wantActed(t, placeOf("t", src), "t", outs("o", "p", "t"), impl.Acted{Steps: 6, Files: filesOf("o", "4", "p", "2", "t", "3"), Seen: []impl.Seen{seenBy(impl.LookRead, "t", src)}})
	wantActed(t, placeOf("t", src), "t", outs("o", "t"), impl.Acted{Code: impl.Broken, Text: "output in main", Steps: 4, Seen: []impl.Seen{seenBy(impl.LookRead, "t", src)}})
	// What is said, each of it and in its order.
	src = mainOf("say \"b\"; say \"\"; say arg(); say \"b\"; fail \"f\";")
	wantActed(t, placeOf("t", src), "t", impl.Job{Arg: "z"}, impl.Acted{Code: impl.Failed, Text: "f", Steps: 6, Said: []string{"b", "", "z", "b"}, Seen: []impl.Seen{seenBy(impl.LookRead, "t", src)}})
}

// What is looked at in the place, and how it is told.
func TestActLooks(t *testing.T) {
	p := placeOf("a", "1", "empty", "", "lib/x", "2", "lib/y", "3")
	for _, c := range []struct {
		statements string
		want       impl.Acted
	}{
		{"return read(\"a\");", impl.Acted{Text: "1", Steps: 2, Seen: []impl.Seen{seenBy(impl.LookRead, "a", "1")}}},
		{"return read(\"empty\");", impl.Acted{Steps: 2, Seen: []impl.Seen{seenBy(impl.LookRead, "empty", "")}}},
		{"if has(\"a\") { return \"y\"; } return \"n\";", impl.Acted{Text: "y", Steps: 3, Seen: []impl.Seen{seenBy(impl.LookHas, "a", "")}}},
		{"if has(\"empty\") { return \"y\"; } return \"n\";", impl.Acted{Text: "y", Steps: 3, Seen: []impl.Seen{seenBy(impl.LookHas, "empty", "")}}},
		{"if has(\"b\") { return \"y\"; } return \"n\";", impl.Acted{Text: "n", Steps: 3, Seen: []impl.Seen{notSeen(impl.LookHas, "b")}}},
		{"if has(\"lib\") { return \"y\"; } return \"n\";", impl.Acted{Text: "n", Steps: 3, Seen: []impl.Seen{notSeen(impl.LookHas, "lib")}}},
		{"return list(\"lib/\");", impl.Acted{Text: "lib/x\nlib/y\n", Steps: 2, Seen: []impl.Seen{seenBy(impl.LookList, "lib/", "lib/x\nlib/y\n")}}},
		{"return list(\"q\");", impl.Acted{Steps: 2, Seen: []impl.Seen{seenBy(impl.LookList, "q", "")}}},
		{"return list(\"\");", impl.Acted{Text: "a\nempty\nlib/x\nlib/y\nt\n", Steps: 2, Seen: []impl.Seen{seenBy(impl.LookList, "", "a\nempty\nlib/x\nlib/y\nt\n")}}},
		// A look that comes twice is seen twice.
		{"return read(\"a\") + read(\"a\");", impl.Acted{Text: "11", Steps: 2, Seen: []impl.Seen{seenBy(impl.LookRead, "a", "1"), seenBy(impl.LookRead, "a", "1")}}},
		{"if has(\"b\") || has(\"b\") || has(\"a\") { } return \"\";", impl.Acted{Steps: 3, Seen: []impl.Seen{notSeen(impl.LookHas, "b"), notSeen(impl.LookHas, "b"), seenBy(impl.LookHas, "a", "")}}},
		// In their order, and only those that come.
		{"if has(\"a\") || has(\"b\") { return list(\"a\") + read(\"lib/x\"); } return read(\"b\");", impl.Acted{Text: "a\n2", Steps: 3, Seen: []impl.Seen{seenBy(impl.LookHas, "a", ""), seenBy(impl.LookList, "a", "a\n"), seenBy(impl.LookRead, "lib/x", "2")}}},
		{"let n = read(\"a\"); return n + read(\"b\") + read(\"a\");", impl.Acted{Code: impl.Missing, Text: "b", Steps: 3, Seen: []impl.Seen{seenBy(impl.LookRead, "a", "1"), notSeen(impl.LookRead, "b")}}},
		// A name that is none is no look.
		{"return read(\"\") + read(\"a\");", impl.Acted{Code: impl.Broken, Text: "name in main", Steps: 2}},
		{"return list(\"x y\");", impl.Acted{Code: impl.Broken, Text: "name in main", Steps: 2}},
	} {
		src := mainOf(c.statements)
		c.want.Seen = append([]impl.Seen{seenBy(impl.LookRead, "t", src)}, c.want.Seen...)
		wantActed(t, laid(t, p, "t", src), "t", impl.Job{}, c.want)
	}
	// The program may look at its own file.
	src := mainOf("return dec(len(read(\"t\")));")
	own := seenBy(impl.LookRead, "t", src)
	wantActed(t, placeOf("t", src), "t", impl.Job{}, impl.Acted{Text: fmt.Sprint(len(src)), Steps: 2, Seen: []impl.Seen{own, own}})
}

// Tools are files of the place, looked at as by read.
func TestActTools(t *testing.T) {
	u := mainOf("say arg(); return arg() + read(arg());")
	v := mainOf("write \"o\", arg(); return tool(\"u\", arg()) + \"!\";")
	seenU, seenV := seenBy(impl.LookRead, "u", u), seenBy(impl.LookRead, "v", v)
	a, b := seenBy(impl.LookRead, "a", "1"), seenBy(impl.LookRead, "b", "2")
	p := placeOf("a", "1", "b", "2", "none", "fn", "u", u, "v", v)
	for _, c := range []struct {
		statements string
		want       impl.Acted
	}{
		{"return tool(\"u\", \"a\");", impl.Acted{Text: "a1", Steps: 5, Said: []string{"a"}, Seen: []impl.Seen{seenU, a}}},
		{"return tool(\"u\", \"a\") + tool(\"u\", \"b\");", impl.Acted{Text: "a1b2", Steps: 8, Said: []string{"a", "b"}, Seen: []impl.Seen{seenU, a, seenU, b}}},
		{"return tool(\"v\", \"a\");", impl.Acted{Text: "a1!", Steps: 8, Said: []string{"a"}, Seen: []impl.Seen{seenV, seenU, a}}},
		{"return tool(\"u\", \"c\");", impl.Acted{Code: impl.Missing, Text: "c", Steps: 5, Said: []string{"c"}, Seen: []impl.Seen{seenU, notSeen(impl.LookRead, "c")}}},
		{"return tool(\"w\", \"a\");", impl.Acted{Code: impl.Missing, Text: "w", Steps: 2, Seen: []impl.Seen{notSeen(impl.LookRead, "w")}}},
		{"return tool(\"none\", \"a\");", impl.Acted{Code: impl.Broken, Text: "tool in main", Steps: 2, Seen: []impl.Seen{seenBy(impl.LookRead, "none", "fn")}}},
		{"return tool(\"a b\", \"a\");", impl.Acted{Code: impl.Broken, Text: "name in main", Steps: 2}},
		{"return f();", impl.Acted{Code: impl.Broken, Text: "tool in f", Steps: 4, Seen: []impl.Seen{seenBy(impl.LookRead, "none", "fn")}}},
	} {
		src := mainOf(c.statements) + " fn f() -> text { return tool(\"none\", \"\"); }"
		c.want.Seen = append([]impl.Seen{seenBy(impl.LookRead, "t", src)}, c.want.Seen...)
		job := impl.Job{}
		if strings.Contains(c.statements, "\"v\"") {
			job = outs("o")
			c.want.Files = filesOf("o", "a")
		}
		wantActed(t, laid(t, p, "t", src), "t", job, c.want)
	}
	// A tool that calls itself as a tool: each call looks at it again.
	src := mainOf("return tool(\"t\", \"\");")
	wantActed(t, placeOf("t", src), "t", impl.Job{}, impl.Acted{Code: impl.Broken, Text: "deep in main", Steps: 80, Seen: slices.Repeat([]impl.Seen{seenBy(impl.LookRead, "t", src)}, 41)})
	// What a run writes is no tool of it yet; another run may call it.
	maker := mainOf("write \"u\", \"" + strings.ReplaceAll(mainOf("return arg() + \"made\";"), "\"", "\\22") + "\"; return tool(\"u\", \"\");")
	old := mainOf("return \"old\";")
	did := checkAct(t, placeOf("m", maker, "u", old), "m", outs("u"))
	if did.Code != impl.Done || did.Text != "old" || len(did.Files) != 1 {
		t.Fatalf("%+v", did)
	}
	q, _ := impl.Lay(placeOf("m", maker, "u", old), did.Files)
	if again := checkAct(t, q, "m", outs("u")); again.Text != "made" {
		t.Errorf("%+v", again)
	}
	if made := checkAct(t, q, "u", impl.Job{Arg: "z"}); made.Text != "zmade" {
		t.Errorf("%+v", made)
	}
}

// The look at the program does not count as one of the run's.
func TestActMaxLooks(t *testing.T) {
	p := placeOf("l", "x")
	for _, c := range []struct {
		looks, code, seen int
		text              string
	}{{0, impl.Done, 1, "r"}, {99, impl.Done, 100, "r"}, {100, impl.Done, 101, "r"}, {101, impl.Spent, 101, ""}, {150, impl.Spent, 101, ""}} {
		src := mainOf(fmt.Sprintf("let looked = 0; while looked < %d { looked = looked + len(read(\"l\")); } return \"r\";", c.looks))
		q := laid(t, p, "t", src)
		did := checkAct(t, q, "t", impl.Job{})
		if did.Code != c.code || did.Text != c.text || len(did.Seen) != c.seen || !slices.Equal(did.Seen[1:], slices.Repeat([]impl.Seen{seenBy(impl.LookRead, "l", "x")}, c.seen-1)) {
			t.Errorf("%d looks: %d %q with %d seen", c.looks, did.Code, did.Text, len(did.Seen))
		}
		wantSameActed(t, fmt.Sprint(c.looks, " again"), impl.Again(did.Seen, "t", impl.Job{}), did)
		wantNotValid(t, fmt.Sprint(c.looks, " and one more"), impl.Again(append(slices.Clone(did.Seen), seenBy(impl.LookRead, "l", "x")), "t", impl.Job{}))
		wantNotValid(t, fmt.Sprint(c.looks, " but one"), impl.Again(did.Seen[:len(did.Seen)-1], "t", impl.Job{}))
	}
	// With as many of Seen as there may be, and more, the first one being the last of them, too.
	many := slices.Repeat([]impl.Seen{notSeen(impl.LookRead, "t")}, 5000)
	for _, count := range []int{2, 100, 101, 102, 103, 5000} {
		wantNotValid(t, fmt.Sprint(count), impl.Again(many[:count], "t", impl.Job{}))
	}
}

func TestActNotValid(t *testing.T) {
	src := mainOf("return \"r\";")
	p := placeOf("t", src)
	right := impl.Acted{Text: "r", Steps: 2, Seen: []impl.Seen{seenBy(impl.LookRead, "t", src)}}
	wantActed(t, p, "t", impl.Job{}, right)
	for what, c := range placeCases() {
		got := impl.Act(c.place, "none-of-these", impl.Job{})
		if c.valid {
			wantSameActed(t, what, got, impl.Acted{Code: impl.Missing, Text: "none-of-these", Seen: []impl.Seen{notSeen(impl.LookRead, "none-of-these")}})
		} else {
			wantNotValid(t, what, got)
		}
	}
	wantNotValid(t, "a place in which the program lies twice", impl.Act(placeOf("t", src, "t", src), "t", impl.Job{}))
	wantNotValid(t, "a place with a wrong file behind the program", impl.Act(placeOf("t", src, "u", xs(3001)), "t", impl.Job{}))
	for _, name := range []string{"", " ", "a b", "t ", "t\n", "\x7f", "\x80", xs(61), xs(5000)} {
		wantActed(t, p, name, impl.Job{}, impl.Acted{Code: impl.NotValid})
		wantNotValid(t, "again", impl.Again([]impl.Seen{notSeen(impl.LookRead, name)}, name, impl.Job{}))
		wantNotValid(t, "again", impl.Again(nil, name, impl.Job{}))
	}
	wrong := []impl.Job{{Arg: xs(3001)}, outs(""), outs("a b"), outs("b", "a"), outs("a", "a"), outs(xs(61)), outs(strings.Split("a b c d e f g h i j k l m n o p q r s t u", " ")...)}
	for _, j := range wrong {
		wantActed(t, p, "t", j, impl.Acted{Code: impl.NotValid})
		wantActed(t, p, "gone", j, impl.Acted{Code: impl.NotValid})
		wantNotValid(t, "again", impl.Again(right.Seen, "t", j))
	}
}

func TestHolds(t *testing.T) {
	p := placeOf("a", "1", "empty", "", "lib/x", "2", "lib/y", "3")
	for _, c := range []struct {
		seen  []impl.Seen
		holds bool
	}{
		{nil, true},
		{[]impl.Seen{}, true},
		{[]impl.Seen{seenBy(impl.LookRead, "a", "1")}, true},
		{[]impl.Seen{seenBy(impl.LookRead, "a", "2")}, false},
		{[]impl.Seen{seenBy(impl.LookRead, "a", "")}, false},
		{[]impl.Seen{notSeen(impl.LookRead, "a")}, false},
		{[]impl.Seen{{Kind: impl.LookRead, Name: "a", Reply: belowReply}}, false},
		{[]impl.Seen{{Kind: impl.LookRead, Name: "a", Reply: impl.Reply{Code: 4, Text: "1"}}}, false},
		{[]impl.Seen{seenBy(impl.LookRead, "empty", "")}, true},
		{[]impl.Seen{notSeen(impl.LookRead, "empty")}, false},
		{[]impl.Seen{notSeen(impl.LookRead, "b")}, true},
		{[]impl.Seen{seenBy(impl.LookRead, "b", "")}, false},
		{[]impl.Seen{{Kind: impl.LookRead, Name: "b", Reply: impl.Reply{Code: 4, Text: "1"}}}, false},
		{[]impl.Seen{seenBy(impl.LookHas, "a", "")}, true},
		{[]impl.Seen{seenBy(impl.LookHas, "a", "1")}, false},
		{[]impl.Seen{{Kind: impl.LookHas, Name: "a", Reply: belowReply}}, false},
		{[]impl.Seen{notSeen(impl.LookHas, "a")}, false},
		{[]impl.Seen{notSeen(impl.LookHas, "b")}, true},
		{[]impl.Seen{seenBy(impl.LookHas, "b", "")}, false},
		{[]impl.Seen{seenBy(impl.LookList, "lib/", "lib/x\nlib/y\n")}, true},
		{[]impl.Seen{seenBy(impl.LookList, "lib/", "lib/x\n")}, false},
		{[]impl.Seen{seenBy(impl.LookList, "lib/", "lib/x\nlib/y")}, false},
		{[]impl.Seen{seenBy(impl.LookList, "lib/", "lib/y\nlib/x\n")}, false},
		{[]impl.Seen{seenBy(impl.LookList, "q", "")}, true},
		{[]impl.Seen{notSeen(impl.LookList, "q")}, false},
		{[]impl.Seen{seenBy(impl.LookList, "", "a\nempty\nlib/x\nlib/y\n")}, true},
		// Other kinds are answered by Code 5, and names that are none as in See.
		{[]impl.Seen{{Kind: impl.LookTool, Name: "a", Reply: belowReply}}, true},
		{[]impl.Seen{seenBy(impl.LookTool, "a", "1")}, false},
		{[]impl.Seen{{Kind: 0, Name: "", Reply: belowReply}}, true},
		{[]impl.Seen{{}}, false},
		{[]impl.Seen{{Kind: 77, Reply: belowReply}}, true},
		{[]impl.Seen{notSeen(impl.LookRead, "")}, true},
		{[]impl.Seen{notSeen(impl.LookRead, "a b")}, true},
		{[]impl.Seen{seenBy(impl.LookList, " ", "")}, true},
		// All of them, not one of them; in any order, and any number.
		{[]impl.Seen{seenBy(impl.LookRead, "a", "1"), notSeen(impl.LookRead, "b"), seenBy(impl.LookHas, "a", "")}, true},
		{[]impl.Seen{notSeen(impl.LookHas, "b"), seenBy(impl.LookRead, "a", "1"), seenBy(impl.LookRead, "a", "1")}, true},
		{[]impl.Seen{seenBy(impl.LookRead, "a", "2"), seenBy(impl.LookRead, "a", "1")}, false},
		{[]impl.Seen{seenBy(impl.LookRead, "a", "1"), seenBy(impl.LookRead, "a", "2")}, false},
		{slices.Repeat([]impl.Seen{seenBy(impl.LookRead, "a", "1")}, 500), true},
		{append(slices.Repeat([]impl.Seen{seenBy(impl.LookRead, "a", "1")}, 500), seenBy(impl.LookRead, "a", "")), false},
	} {
		if got := impl.Holds(p, c.seen); got != c.holds {
			t.Errorf("%.300q: %v", fmt.Sprint(c.seen), got)
		}
	}
	for what, c := range placeCases() {
		for _, seen := range [][]impl.Seen{nil, {notSeen(impl.LookRead, "none-of-these")}} {
			if got := impl.Holds(c.place, seen); got != c.valid {
				t.Errorf("%s: %v", what, got)
			}
		}
		// That a place which is not valid answers all looks by Code 5 does not make it hold.
		if !c.valid && impl.Holds(c.place, []impl.Seen{{Kind: impl.LookRead, Name: "a", Reply: belowReply}}) {
			t.Errorf("%s: holds", what)
		}
	}
}

func TestAgain(t *testing.T) {
	src := mainOf("if has(\"b\") { say \"b\"; } write \"o\", read(\"a\") + list(\"l\"); return tool(\"u\", \"z\");")
	u := mainOf("return arg();")
	p := placeOf("a", "1", "l", "", "t", src, "u", u)
	j := outs("o")
	did := checkAct(t, p, "t", j)
	want := impl.Acted{Text: "z", Steps: 6, Files: filesOf("o", "1l\n"), Seen: []impl.Seen{seenBy(impl.LookRead, "t", src), notSeen(impl.LookHas, "b"), seenBy(impl.LookRead, "a", "1"), seenBy(impl.LookList, "l", "l\n"), seenBy(impl.LookRead, "u", u)}}
	wantSameActed(t, "did", did, want)
	wantSameActed(t, "again", impl.Again(did.Seen, "t", j), want)
	bent := func(bend func(seen []impl.Seen) []impl.Seen) impl.Acted {
		return impl.Again(bend(slices.Clone(did.Seen)), "t", j)
	}
	for i := range did.Seen {
		wantNotValid(t, fmt.Sprint("but the last ", i), bent(func(s []impl.Seen) []impl.Seen { return s[:i] }))
		wantNotValid(t, fmt.Sprint("without ", i), bent(func(s []impl.Seen) []impl.Seen { return slices.Delete(s, i, i+1) }))
		wantNotValid(t, fmt.Sprint("twice ", i), bent(func(s []impl.Seen) []impl.Seen { return slices.Insert(s, i, s[i]) }))
		for k := range i {
			wantNotValid(t, fmt.Sprint("in another order ", k, i), bent(func(s []impl.Seen) []impl.Seen { s[i], s[k] = s[k], s[i]; return s }))
		}
		for _, kind := range []int{0, 1, 2, 3, 4, 5, -1} {
			if kind != did.Seen[i].Kind {
				wantNotValid(t, fmt.Sprint("another Kind ", i, kind), bent(func(s []impl.Seen) []impl.Seen { s[i].Kind = kind; return s }))
			}
		}
		for _, name := range []string{"", "x", did.Seen[i].Name + "x", strings.ToUpper(did.Seen[i].Name)} {
			wantNotValid(t, fmt.Sprint("another Name ", i, name), bent(func(s []impl.Seen) []impl.Seen { s[i].Name = name; return s }))
		}
		for _, y := range []impl.Reply{{Code: 1}, {Code: 2}, {Code: 3}, {Code: 9}, {Code: -1}, {Code: 6}, {Code: 4, Text: "x"}, {Code: 5, Text: "x"}, {Text: xs(3001)}} {
			wantNotValid(t, fmt.Sprint("a reply that is not valid ", i), bent(func(s []impl.Seen) []impl.Seen { s[i].Reply = y; return s }))
		}
	}
	// Other replies lead elsewhere, and are told as they are.
	other := bent(func(s []impl.Seen) []impl.Seen {
		s[1].Reply = impl.Reply{Text: "a text that has plays no part in"}
		s[2].Reply = impl.Reply{Text: "2"}
		s[3].Reply = belowReply
		return s
	})
	if other.Code != impl.Done || other.Steps != 7 || !slices.Equal(other.Said, []string{"b"}) || !slices.Equal(other.Files, filesOf("o", "2")) || other.Seen[1].Reply.Text != "a text that has plays no part in" || other.Seen[3].Reply != belowReply {
		t.Errorf("%+v", other)
	}
	// An end that comes early: what is left over is too much.
	for i, code := range map[int]int{2: impl.Missing, 4: impl.Below} {
		early := func(s []impl.Seen) []impl.Seen { s[i].Reply = impl.Reply{Code: code}; return s[:i+1] }
		got := bent(early)
		if got.Code != code || got.Text != did.Seen[i].Name || len(got.Files) != 0 || len(got.Seen) != i+1 {
			t.Errorf("%d: %+v", i, got)
		}
		wantNotValid(t, "more behind the end", bent(func(s []impl.Seen) []impl.Seen { return append(early(s), seenBy(impl.LookRead, "a", "1")) }))
	}
	wantNotValid(t, "nothing seen", impl.Again(nil, "t", j))
	wantNotValid(t, "another tool", impl.Again(did.Seen, "u", j))
	// A look that is one too many for the run is none: what stands for it is left over.
	wantNotValid(t, "a wrong reply that is left over", impl.Again(append(slices.Clone(did.Seen), impl.Seen{Reply: impl.Reply{Code: 1}}), "t", j))
}

// The first look, as it may be answered.
func TestAgainFirst(t *testing.T) {
	for _, c := range []struct {
		reply impl.Reply
		code  int
		text  string
		steps int
	}{
		{goneReply, impl.Missing, "t", 0},
		{belowReply, impl.Below, "t", 0},
		{impl.Reply{Text: "fn"}, impl.Broken, "tool", 0},
		{impl.Reply{}, impl.Broken, "tool", 0},
		{impl.Reply{Text: mainOf("return arg();")}, impl.Done, "z", 2},
		{impl.Reply{Text: mainOf("fail arg();")}, impl.Failed, "z", 2},
	} {
		seen := []impl.Seen{{Kind: impl.LookRead, Name: "t", Reply: c.reply}}
		want := impl.Acted{Code: c.code, Text: c.text, Steps: c.steps, Seen: seen}
		wantSameActed(t, c.text, impl.Again(seen, "t", impl.Job{Arg: "z"}), want)
		wantNotValid(t, "one more", impl.Again(append(slices.Clone(seen), seen[0]), "t", impl.Job{Arg: "z"}))
		for _, kind := range []int{0, impl.LookHas, impl.LookList, impl.LookTool} {
			wantNotValid(t, "another kind", impl.Again([]impl.Seen{{Kind: kind, Name: "t", Reply: c.reply}}, "t", impl.Job{Arg: "z"}))
		}
		wantNotValid(t, "another name", impl.Again(seen, "u", impl.Job{Arg: "z"}))
	}
	// Below in a run, which no place leads to.
	for _, e := range []string{"read(\"a\")", "tool(\"a\", \"\")"} {
		src := mainOf("say \"s\"; return " + e + ";")
		seen := []impl.Seen{seenBy(impl.LookRead, "t", src), {Kind: impl.LookRead, Name: "a", Reply: belowReply}}
		wantSameActed(t, e, impl.Again(seen, "t", impl.Job{}), impl.Acted{Code: impl.Below, Text: "a", Steps: 3, Said: []string{"s"}, Seen: seen})
	}
}

// What is answered is new memory, the texts of its lists, too, and the arguments stay as they are.
func TestActOwnMemory(t *testing.T) {
	for _, statements := range []string{
		"return arg();", "return read(\"aa\");", "fail \"name\";", "return read(\"gone\");", "say read(\"aa\"); say arg(); say \"aa\"; write \"oo\", read(\"aa\"); write \"pp\", arg(); return list(\"aa\");",
		"write \"oo\", read(\"aa\"); write \"pp\", cut(arg(), 1, 3); return tool(\"uu\", read(\"aa\"));", "return tool(\"aa\", \"\");", "return 1;",
	} {
		p := ownRoom(placeOf("aa", "text a", "tt", mainOf(statements), "uu", mainOf("say arg(); return arg();")))
		j := ownRoom(impl.Job{Arg: "arg of it", Outs: []string{"oo", "pp"}})
		for _, tool := range []string{"tt", "uu", "aa", "none", "x y"} {
			tool = ownRoom(tool)
			wantOwn(t, "Act", func() any { return impl.Act(p, tool, j) }, p, tool, j)
			seen := ownRoom(impl.Act(p, tool, j).Seen)
			wantOwn(t, "Again", func() any { return impl.Again(seen, tool, j) }, seen, tool, j)
			wantOwn(t, "Holds", func() any { return impl.Holds(p, seen) }, p, seen)
			if len(seen) > 0 {
				wantOwn(t, "Again", func() any { return impl.Again(seen[:len(seen)-1], tool, j) }, seen, tool, j)
			}
		}
	}
}
