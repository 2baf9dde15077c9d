package tests

import (
	"fmt"
	"slices"
	"strings"
	"testing"

	"loop.example/kilnmill/impl"
)

// wantCheck holds Check and Types of a tree against a fault, and both against the model.
func wantCheck(t *testing.T, what string, tree impl.Tree, want impl.Fault) {
	t.Helper()
	if got := impl.Check(tree); got != want {
		t.Errorf("%.200q: %+v, want %+v", what, got, want)
	}
	types := impl.Types(tree)
	if want.Code != 0 && types != nil {
		t.Errorf("%.200q: %d types beside a fault", what, len(types))
	}
	if want.Code == 0 && len(types) != len(tree.Nodes) {
		t.Errorf("%.200q: %d types of %d nodes", what, len(types), len(tree.Nodes))
	}
	if fault, wantTypes := modelCheck(tree); fault != want || !slices.Equal(types, wantTypes) {
		t.Errorf("%.200q: the model says %+v, types %v, want %v", what, fault, types, wantTypes)
	}
}

func parsed(t *testing.T, src string) impl.Tree {
	t.Helper()
	tree, f := impl.Parse(src)
	if f != (impl.Fault{}) {
		t.Fatalf("%.200q: %+v", src, f)
	}
	return tree
}

func wantFits(t *testing.T, src string) {
	t.Helper()
	wantCheck(t, src, parsed(t, src), impl.Fault{})
}

// wantUnfit asks for a code at the node with this number among those of its kind.
func wantUnfit(t *testing.T, src string, code, kind, nth int) {
	t.Helper()
	tree := parsed(t, src)
	wantCheck(t, src, tree, impl.Fault{Code: code, At: numberOf(t, tree, kind, nth)})
}

func numberOf(t *testing.T, tree impl.Tree, kind, nth int) int {
	t.Helper()
	for i, n := range tree.Nodes {
		if n.Kind != kind {
			continue
		}
		if nth == 0 {
			return i
		}
		nth--
	}
	t.Fatalf("no such node of kind %d", kind)
	return 0
}

// inMain is a program with these statements in its main.
func inMain(statements string) string {
	return "fn main() -> text { " + statements + " return \"\"; }"
}

// withMain is a program of these functions and a main.
func withMain(fns string) string {
	return fns + " " + inMain("")
}

// Each code, with a tree of its own, and the edges of what it says.
func TestCheckCodes(t *testing.T) {
	for _, c := range []struct {
		code, kind, nth int
		src             string
	}{
		{1, impl.NodeFn, 1, withMain("fn f() { } fn f() { }")},
		{1, impl.NodeFn, 2, withMain("fn f() { } fn g() { } fn f(a u8) { }")},
		{1, impl.NodeFn, 1, inMain("") + " fn main() { }"},
		{1, impl.NodeFn, 1, "fn f() { } fn f() { } fn f() { }"},

		{2, impl.NodeLet, 1, inMain("let a = 1; let a = 2;")},
		{2, impl.NodeLet, 1, inMain("let a = 1; let a = \"\";")},
		{2, impl.NodeLet, 1, inMain("let a = 1; if true { let a = 2; }")},
		{2, impl.NodeLet, 1, inMain("let a = 1; if true { } else { let a = 2; }")},
		{2, impl.NodeLet, 1, inMain("let a = 1; if true { } else if true { let a = 2; }")},
		{2, impl.NodeLet, 1, inMain("let a = 1; while true { while true { let a = a; } }")},
		{2, impl.NodeLet, 2, inMain("while true { let a = 1; let b = 1; let a = 2; }")},
		{2, impl.NodeLet, 0, withMain("fn f(a u8) { let a = 1; }")},
		{2, impl.NodeLet, 0, withMain("fn f(a u8, b u8) { while true { let b = 1; } }")},
		{2, impl.NodeParam, 1, withMain("fn f(a u8, a u8) { }")},
		{2, impl.NodeParam, 2, withMain("fn f(a u8, b text, a bool, b bool) { }")},

		{3, impl.NodeName, 0, inMain("say a;")},
		{3, impl.NodeName, 0, inMain("let a = a;")},
		{3, impl.NodeName, 1, inMain("let b = 1; let a = b + a;")},
		{3, impl.NodeName, 0, inMain("if true { let a = 1; } let b = a;")},
		{3, impl.NodeName, 0, inMain("if true { let a = 1; } else { let b = a; }")},
		{3, impl.NodeName, 0, inMain("if true { let a = true; } else if a { }")},
		{3, impl.NodeName, 0, inMain("while true { let a = true; } while a { }")},
		{3, impl.NodeName, 0, inMain("while a { let a = true; }")},
		{3, impl.NodeName, 0, inMain("while true { let b = a; let a = 1; }")},
		{3, impl.NodeName, 0, inMain("let b = a; let a = 1;")},
		{3, impl.NodeName, 0, withMain("fn f(a u8) { } fn g() { let b = a; }")},
		{3, impl.NodeName, 0, withMain("fn g() { let b = a; } fn f(a u8) { }")},
		{3, impl.NodeName, 0, withMain("fn f() { let b = f; }")},
		{3, impl.NodeName, 0, inMain("let b = main;")},
		{3, impl.NodeSet, 0, inMain("a = 1;")},
		{3, impl.NodeSet, 0, inMain("a = 1; let a = 1;")},
		{3, impl.NodeSet, 0, inMain("if true { let a = 1; } a = 1;")},
		{3, impl.NodeSet, 0, inMain("while true { while true { let a = 1; } a = 2; }")},
		{3, impl.NodeSet, 0, withMain("fn f() { f = 1; }")},

		{4, impl.NodeCall, 0, inMain("f();")},
		{4, impl.NodeCall, 0, inMain("let f = 1; f();")},
		{4, impl.NodeCall, 0, withMain("fn f(a u8) { a(); }")},
		{4, impl.NodeCall, 0, withMain("fn f(a u8) { f(); }")},
		{4, impl.NodeCall, 0, withMain("fn f() { f(1); }")},
		{4, impl.NodeCall, 0, withMain("fn f(a u8) { f(a, a); }")},
		{4, impl.NodeCall, 0, withMain("fn f(a u8, b u8) { f(a); }")},
		{4, impl.NodeCall, 0, inMain("let a = main(1);")},
		{4, impl.NodeCall, 0, withMain("fn f(a u8) { f(g()); }")},

		{6, impl.NodeBreak, 0, inMain("break;")},
		{6, impl.NodeContinue, 0, inMain("continue;")},
		{6, impl.NodeBreak, 0, inMain("if true { break; }")},
		{6, impl.NodeContinue, 0, inMain("if true { } else { continue; }")},
		{6, impl.NodeBreak, 1, inMain("while true { break; } break;")},
		{6, impl.NodeContinue, 1, inMain("while true { continue; } if true { continue; }")},
		{6, impl.NodeBreak, 0, inMain("while true { } break;")},
		{6, impl.NodeBreak, 1, inMain("while true { while true { break; } } break;")},
		{6, impl.NodeBreak, 0, withMain("fn f() { while true { } } fn g() { break; }")},

		{7, impl.NodeReturn, 0, "fn main() -> text { return; }"},
		{7, impl.NodeReturn, 0, "fn main() -> text { return 1; }"},
		{7, impl.NodeReturn, 0, "fn main() -> text { if true { return true; } return \"\"; }"},
		{7, impl.NodeReturn, 1, "fn main() -> text { if true { return \"\"; } return; }"},
		{7, impl.NodeReturn, 0, withMain("fn f() { return 1; }")},
		{7, impl.NodeReturn, 0, withMain("fn f() { return f(); }")},
		{7, impl.NodeReturn, 0, withMain("fn f() { } fn g() -> u8 { return f(); }")},
		{7, impl.NodeReturn, 0, withMain("fn g() -> u8 { return 1; }")},
		{7, impl.NodeReturn, 1, withMain("fn g() { return; } fn h() -> u8 { while true { return; } }")},
		{7, impl.NodeReturn, 1, withMain("fn g() -> u8 { return 1u8; } fn h() { return g(); }")},

		{8, impl.NodeFn, 0, "fn main() -> text { }"},
		{8, impl.NodeFn, 0, "fn main() -> text { return \"\"; say \"\"; }"},
		{8, impl.NodeFn, 0, "fn main() -> text { while true { return \"\"; } }"},
		{8, impl.NodeFn, 0, "fn main() -> text { if true { return \"\"; } }"},
		{8, impl.NodeFn, 0, "fn main() -> text { if true { return \"\"; } else { } }"},
		{8, impl.NodeFn, 0, "fn main() -> text { if true { } else { return \"\"; } }"},
		{8, impl.NodeFn, 0, "fn main() -> text { if true { say \"\"; } else { fail \"\"; } }"},
		{8, impl.NodeFn, 0, "fn main() -> text { if true { return \"\"; } else if true { return \"\"; } }"},
		{8, impl.NodeFn, 0, "fn main() -> text { if true { fail \"\"; } else if true { } else { fail \"\"; } }"},
		{8, impl.NodeFn, 0, "fn main() -> text { if true { fail \"\"; } else if true { fail \"\"; } else { } }"},
		{8, impl.NodeFn, 0, "fn main() -> text { if true { if true { fail \"\"; } } else { fail \"\"; } }"},
		{8, impl.NodeFn, 0, "fn main() -> text { while true { break; } main(); }"},
		{8, impl.NodeFn, 1, withMain("fn f() { } fn g() -> u8 { f(); }")},

		{10, impl.NodeProgram, 0, "fn f() { }"},
		{10, impl.NodeProgram, 0, "fn main() { }"},
		{10, impl.NodeProgram, 0, "fn main() -> u8 { return 1u8; }"},
		{10, impl.NodeProgram, 0, "fn main() -> bool { return true; }"},
		{10, impl.NodeProgram, 0, "fn main(a u8) -> text { return \"\"; }"},
		{10, impl.NodeProgram, 0, "fn main(a text, b text) -> text { return a + b; }"},
		{10, impl.NodeProgram, 0, "fn f() -> text { return \"\"; } fn main2() -> text { return \"\"; }"},
		{10, impl.NodeProgram, 0, "fn f(main text) -> text { let m = main; return m; }"},
	} {
		wantUnfit(t, c.src, c.code, c.kind, c.nth)
	}
}

func TestCheckFits(t *testing.T) {
	for _, src := range []string{
		inMain(""),
		"fn main() -> text { fail \"\"; }",
		"fn main() -> text { return main(); }",
		"fn main() -> text { return g(); } fn g() -> text { return arg(); }",
		// Names in blocks beside each other, with types of their own.
		inMain("if true { let a = 1; a = 2; } else { let a = \"\"; a = \"x\"; } let a = true; a = !a;"),
		inMain("while true { let a = 1; } while true { let a = \"\"; } let a = 1u8; a = a + 1u8;"),
		inMain("if true { let a = 1; } else if true { let a = 1u8; let b = -a; } else { let a = true; let b = !a; }"),
		inMain("while true { if true { let a = 1; } if true { let a = \"\"; say a; } let a = \"\"; say a; }"),
		// A name from around, and one that stands behind it.
		inMain("let a = 1; if a == 1 { let b = a; a = b; while b < a { b = a; } } let b = \"\"; say b;"),
		// A condition stands outside the block behind it.
		inMain("let a = true; while a { let b = 1; } if a { let b = 1; } else if a { let b = 2; } let b = a; b = b;"),
		// Names of functions are no names of values.
		withMain("fn f(f u8) { let g = f; f = g; } fn g(main text) { g(main); }"),
		inMain("let main = 1; main = main + 1;"),
		withMain("fn f(a u8, b u8) { a = b; } fn g(b text, a text) { a = b; }"),
		// Functions are visible in front of them, too, and behind.
		withMain("fn f() { g(); h(); f(); } fn g() { f(); } fn h() { }"),
		// What is called as a statement may give something or nothing.
		withMain("fn f() { } fn g() -> u8 { return 1u8; } fn h() { f(); g(); main(); }"),
		// Loops and what leaves them.
		inMain("while true { break; } while true { continue; }"),
		inMain("while true { if true { break; } else if false { continue; } else { break; } }"),
		inMain("while true { while true { break; } break; while true { } continue; }"),
		// What ends, and what need not.
		withMain("fn f() { return; } fn g() { if true { return; } } fn h() { while true { return; } fail \"\"; }"),
		"fn main() -> text { return \"\"; return \"\"; }",
		"fn main() -> text { return \"\"; fail \"\"; }",
		"fn main() -> text { if true { return \"\"; } else { return \"\"; } }",
		"fn main() -> text { if true { fail \"\"; } else if true { return \"\"; } else { fail \"\"; } }",
		"fn main() -> text { if true { if true { fail \"\"; } else { return \"\"; } } else { say \"\"; return \"\"; } }",
		"fn main() -> text { while true { } if true { while true { } fail \"\"; } else { fail \"\"; } }",
		withMain("fn f(a bool) -> bool { return a; } fn g(a i8) -> i8 { return a; } fn h(a u64) -> u64 { return a; }"),
	} {
		wantFits(t, src)
	}
}

// The first of a node's codes, and the first node in the order of the tree.
func TestCheckFirst(t *testing.T) {
	const none = "fn n() { } "
	for _, c := range []struct {
		code, kind, nth int
		src             string
	}{
		// Two codes of one node.
		{1, impl.NodeFn, 1, withMain("fn f() { } fn f() -> u8 { }")},
		{2, impl.NodeLet, 1, none + inMain("let a = 1; let a = n();")},
		{3, impl.NodeSet, 0, none + inMain("a = n();")},
		{4, impl.NodeCall, 0, withMain("fn f(a u8) { f(1, 2); }")},
		{4, impl.NodeCall, 1, none + inMain("f(n());")},
		{4, impl.NodeCall, 1, none + inMain("n(n());")},
		// A node stands behind its kids.
		{3, impl.NodeName, 0, inMain("a = b;")},
		{3, impl.NodeName, 0, inMain("let a = 1; let a = b;")},
		{3, impl.NodeName, 0, inMain("f(a);")},
		{3, impl.NodeName, 1, withMain("fn f(c u8) { g(c, a, b); }")},
		{4, impl.NodeCall, 0, inMain("f(g());")},
		{4, impl.NodeCall, 1, inMain("say \"\"; f(main(), g());")},
		{5, impl.NodeUn, 0, inMain("let x = !(-true);")},
		{5, impl.NodeBin, 0, inMain("let x = (1 + \"\") + (1 + true);")},
		{5, impl.NodeBin, 1, inMain("let x = (1 + 2) + (1 + true);")},
		{5, impl.NodeSay, 0, inMain("if 1 { say 1; } else { break; }")},
		{6, impl.NodeBreak, 0, inMain("if 1 { say \"\"; } else { break; }")},
		{5, impl.NodeIf, 0, inMain("if 1 { say \"\"; } else if 1 { } else { }")},
		{5, impl.NodeIf, 1, inMain("if 1 { } else if true { }")},
		{3, impl.NodeName, 0, inMain("while 1 { say a; }")},
		{5, impl.NodeWhile, 0, inMain("while 1 { while 1 { } }")},
		{5, impl.NodeWhile, 1, inMain("while 1 { while true { } }")},
		{5, impl.NodeIf, 0, inMain("while 1 { if 1 { break; } }")},
		{7, impl.NodeReturn, 0, "fn f() -> u8 { return 1; } fn f() -> u8 { }"},
		{5, impl.NodeUn, 0, "fn f() -> u8 { return -true; }"},
		// A function stands behind its parameters and its block.
		{2, impl.NodeParam, 1, "fn f() { } fn f(a u8, a u8) -> u8 { say b; }"},
		{3, impl.NodeName, 0, "fn f() { } fn f(a u8) -> u8 { say b; }"},
		{7, impl.NodeReturn, 0, "fn f() { } fn f() -> u8 { return; }"},
		{1, impl.NodeFn, 1, "fn f() { } fn f() -> u8 { } fn g() { say b; }"},
		{8, impl.NodeFn, 0, "fn f() -> u8 { } fn f() { }"},
		{5, impl.NodeSay, 0, "fn f() { say 1; } fn f() { }"},
		// The program is the last.
		{8, impl.NodeFn, 0, "fn main() -> u8 { }"},
		{1, impl.NodeFn, 1, "fn main() { } fn main() -> text { return \"\"; }"},
		{5, impl.NodeSay, 0, "fn f() { say 1; }"},
		// Of functions of one name the first is called.
		{4, impl.NodeCall, 0, "fn f(a u8) { f(); } fn f() { }"},
		{5, impl.NodeCall, 0, "fn f(a u8) { f(\"\"); } fn f(a text) { }"},
		{5, impl.NodeCall, 0, "fn f(a u8) { } fn f(a text) { f(a); }"},
		{1, impl.NodeFn, 1, "fn f(a u8) { } fn f(a text) { f(1u8); }"},
		{5, impl.NodeLet, 0, "fn g() { let x = f(); } fn f() { } fn f() -> u8 { return 1u8; }"},
		{1, impl.NodeFn, 2, "fn g() -> u8 { return f(); } fn f() -> u8 { return 1u8; } fn f() { }"},
		// What a return needs is said by the function that it stands in.
		{1, impl.NodeFn, 1, "fn f() -> u8 { return 1u8; } fn f() { return; }"},
		{7, impl.NodeReturn, 1, "fn f() -> u8 { return 1u8; } fn f() -> text { return 1u8; }"},
	} {
		wantUnfit(t, c.src, c.code, c.kind, c.nth)
	}
}

// sample is an E of each type; that of TypeNone calls a function that gives nothing.
var sample = []string{"n()", "true", "\"\"", "1u8", "1u16", "1u32", "1u64", "1i8", "1i16", "1i32", "1"}

// wantRow asks at node number nth of a kind whether its kids fit, and for its type.
func wantRow(t *testing.T, statement string, kind, nth, gives int, fits bool) {
	t.Helper()
	src := "fn n() { } " + inMain(statement)
	tree := parsed(t, src)
	at := numberOf(t, tree, kind, nth)
	if !fits {
		wantCheck(t, src, tree, impl.Fault{Code: 5, At: at})
		return
	}
	if got := impl.Check(tree); got.Code != 0 && got.At <= at {
		t.Errorf("%q: %+v", src, got)
	}
	if types := impl.Types(tree); types != nil && types[at] != gives {
		t.Errorf("%q: type %d, want %d", src, types[at], gives)
	}
	if got, want := impl.Check(tree), faultOf(tree); got != want {
		t.Errorf("%q: %+v, want %+v", src, got, want)
	}
}

func faultOf(tree impl.Tree) impl.Fault {
	f, _ := modelCheck(tree)
	return f
}

// Each row of the table, with kids of each type.
func TestCheckMarks(t *testing.T) {
	for a := range sample {
		for op := impl.OpNeg; op <= impl.OpInv; op++ {
			gives := rowGives(unRows[op], []int{a})
			wantRow(t, "let x = "+unMarks[op]+sample[a]+";", impl.NodeUn, 0, gives, gives != 0)
		}
		for b := range sample {
			for op := impl.OpOr; op <= impl.OpRight; op++ {
				gives := rowGives(binRows[op], []int{a, b})
				wantRow(t, "let x = "+sample[a]+binMarks[op]+sample[b]+";", impl.NodeBin, 0, gives, gives != 0)
			}
		}
	}
}

func TestCheckBuilt(t *testing.T) {
	for op := impl.BuiltRead; op <= impl.BuiltNum; op++ {
		kids := make([]int, builtKids[op])
		for more := true; more; more = nextKids(kids) {
			var args []string
			for _, kid := range kids {
				args = append(args, sample[kid])
			}
			gives := rowGives(builtRows[op], kids)
			wantRow(t, "let x = "+builtWords[op]+"("+strings.Join(args, ", ")+");", impl.NodeBuilt, 0, gives, gives != 0)
		}
	}
}

// nextKids goes on to the next types of kids; it is false behind the last.
func nextKids(kids []int) bool {
	for i := range kids {
		kids[i]++
		if kids[i] < len(sample) {
			return true
		}
		kids[i] = 0
	}
	return false
}

func TestCheckStatements(t *testing.T) {
	for a := range sample {
		e := sample[a]
		for to := impl.TypeU8; to <= impl.TypeI64; to++ {
			wantRow(t, "let x = "+typeWords[to]+"("+e+");", impl.NodeConv, 0, to, a >= impl.TypeU8)
		}
		wantRow(t, "if "+e+" { }", impl.NodeIf, 0, 0, a == impl.TypeBool)
		wantRow(t, "if "+e+" { } else { }", impl.NodeIf, 0, 0, a == impl.TypeBool)
		wantRow(t, "if true { } else if "+e+" { }", impl.NodeIf, 0, 0, a == impl.TypeBool)
		wantRow(t, "while "+e+" { }", impl.NodeWhile, 0, 0, a == impl.TypeBool)
		wantRow(t, "fail "+e+";", impl.NodeFail, 0, 0, a == impl.TypeText)
		wantRow(t, "say "+e+";", impl.NodeSay, 0, 0, a == impl.TypeText)
		wantRow(t, "let x = "+e+";", impl.NodeLet, 0, 0, a != impl.TypeNone)
		for b := range sample {
			wantRow(t, "write "+e+", "+sample[b]+";", impl.NodeWrite, 0, 0, a == impl.TypeText && b == impl.TypeText)
			if b == impl.TypeNone {
				continue
			}
			wantRow(t, "let x = "+sample[b]+"; x = "+e+";", impl.NodeSet, 0, 0, a == b)
			wantParam(t, a, b)
			wantResult(t, a, b)
		}
	}
}

// wantParam calls a function whose first or last parameter has type b with an E of type a.
func wantParam(t *testing.T, a, b int) {
	t.Helper()
	fn := "fn n() { } fn f(p " + typeWords[b] + ", q bool, r " + typeWords[b] + ") -> u8 { return 1u8; } "
	for _, args := range [][2]int{{a, b}, {b, a}} {
		src := fn + inMain("let x = f("+sample[args[0]]+", true, "+sample[args[1]]+"); x = x;")
		if a == b {
			wantFits(t, src)
			continue
		}
		nth := 0
		if a == impl.TypeNone {
			nth = 1
		}
		wantUnfit(t, src, 5, impl.NodeCall, nth)
	}
}

// wantResult returns an E of type a from a function of type b.
func wantResult(t *testing.T, a, b int) {
	t.Helper()
	src := withMain("fn n() { } fn f() -> " + typeWords[b] + " { return " + sample[a] + "; }")
	if a == b {
		wantFits(t, src)
		wantUnfit(t, withMain("fn n() { } fn f() { return "+sample[a]+"; }"), 7, impl.NodeReturn, 0)
	} else {
		wantUnfit(t, src, 7, impl.NodeReturn, 0)
	}
	wantUnfit(t, withMain("fn f() -> "+typeWords[b]+" { return; }"), 7, impl.NodeReturn, 0)
}

// lets are statements that make names with these numbers.
func lets(from, to int) string {
	var b strings.Builder
	for i := from; i < to; i++ {
		fmt.Fprintf(&b, "let n%d = 1; ", i)
	}
	return b.String()
}

func TestCheckSlots(t *testing.T) {
	const params = "fn f(a u8, b u8, c u8, d u8, e u8, f u8, g u8, h u8) { "
	wantFits(t, inMain(lets(0, 200)))
	wantUnfit(t, inMain(lets(0, 201)), 11, impl.NodeLet, 200)
	wantUnfit(t, inMain(lets(0, 300)), 11, impl.NodeLet, 200)
	wantFits(t, withMain(params+lets(0, 192)+"}"))
	wantUnfit(t, withMain(params+lets(0, 193)+"}"), 11, impl.NodeLet, 192)
	// Names in blocks around count, those in blocks beside do not.
	wantFits(t, inMain(lets(0, 100)+"while true { "+lets(100, 200)+"} "+lets(100, 200)))
	wantFits(t, inMain(lets(0, 100)+"if true { "+lets(100, 200)+"} else if true { "+lets(100, 200)+"} else { "+lets(100, 200)+"}"))
	wantFits(t, inMain("if true { "+lets(0, 200)+"} while true { "+lets(0, 200)+"} "+lets(0, 200)))
	wantUnfit(t, inMain(lets(0, 100)+"while true { "+lets(100, 201)+"}"), 11, impl.NodeLet, 200)
	wantUnfit(t, inMain(lets(0, 100)+"if true { "+lets(100, 200)+"} "+lets(100, 201)), 11, impl.NodeLet, 300)
	wantUnfit(t, inMain(lets(0, 150)+"if true { "+lets(150, 199)+"if true { let x = 1; let y = 2; } }"), 11, impl.NodeLet, 200)
	// Names of one function are none of another.
	wantFits(t, "fn f() { "+lets(0, 200)+"} fn g(a u8) { "+lets(0, 199)+"} "+inMain(lets(0, 200)))
	// Codes 2, 3 and 5 come ahead of it.
	wantUnfit(t, inMain(lets(0, 200)+"let n7 = 1;"), 2, impl.NodeLet, 200)
	wantUnfit(t, "fn n() { } "+inMain(lets(0, 200)+"let x = n();"), 5, impl.NodeLet, 200)
	wantUnfit(t, inMain(lets(0, 200)+"let x = x;"), 3, impl.NodeName, 0)
	// A block in whose end nothing is left makes room again.
	wantFits(t, inMain(strings.Repeat("if true { "+lets(0, 20)+"} ", 20)+lets(0, 200)))
}

func TestCheckNotValid(t *testing.T) {
	good := treeOf(xProgram(xFn("main", impl.TypeText, xBlock(xReturn(xText(""))))))
	wantCheck(t, "main", good, impl.Fault{})
	many := []twig{}
	for range 5998 {
		many = append(many, xSay(xText("")))
	}
	return1 := xReturn(xText(""))
	wantCheck(t, "as many nodes as may be", treeOf(xProgram(xFn("main", 2, xBlock(append(many, return1)...)))), impl.Fault{})
	for what, tree := range map[string]impl.Tree{
		"no nodes":       {},
		"empty list":     {Nodes: []impl.Node{}},
		"one too many":   treeOf(xProgram(xFn("main", 2, xBlock(append(many, xDo(xCall("main")), xBreak(), return1)...)))),
		"no program":     {Nodes: good.Nodes[:len(good.Nodes)-1]},
		"no function":    treeOf(xProgram()),
		"an unused N":    treeOf(xProgram(grow(impl.Node{Kind: impl.NodeFn, Text: "main", Type: 2, N: 1}, xBlock(return1)))),
		"a wrong name":   treeOf(xProgram(xFn("Main", 2, xBlock(return1)))),
		"a taken name":   treeOf(xProgram(xFn("text", 2, xBlock(return1)))),
		"a wrong type":   treeOf(xProgram(xFn("main", 11, xBlock(return1)))),
		"a wrong kind":   {Nodes: []impl.Node{{Kind: 25}}},
		"a wrong op":     treeOf(xProgram(xFn("main", 2, xBlock(xReturn(xBin(19, xText(""), xText(""))))))),
		"a wrong built":  treeOf(xProgram(xFn("main", 2, xBlock(xReturn(xBuilt(13)))))),
		"kids too few":   treeOf(xProgram(xFn("main", 2, xBlock(xReturn(xBuilt(impl.BuiltCut, xText(""), xNum(1))))))),
		"kids too many":  treeOf(xProgram(xFn("main", 2, xBlock(xReturn(xBuilt(impl.BuiltArg, xText(""))))))),
		"a loose node":   {Nodes: slices.Concat(good.Nodes, good.Nodes)},
		"Kids below 0":   {Nodes: []impl.Node{{Kind: impl.NodeProgram, Kids: -1}}},
		"Kids not there": {Nodes: []impl.Node{{Kind: impl.NodeProgram, Kids: 1}}},
		"not valid and not fit": treeOf(xProgram(xFn("f", 2, xBlock(xBreak(), xSay(xNum(-1)))),
			xFn("f", 2, xBlock()))),
	} {
		wantCheck(t, what, tree, impl.Fault{Code: 9})
	}
	deep := func(levels int) impl.Tree {
		e := xNum(1)
		for range levels {
			e = xUn(impl.OpNeg, e)
		}
		// Above e stand a let, a block, a function and the program.
		return treeOf(xProgram(xFn("main", 2, xBlock(xLet("x", e), return1))))
	}
	wantCheck(t, "as deep as may be", deep(56), impl.Fault{})
	wantCheck(t, "too deep", deep(57), impl.Fault{Code: 9})
}

// Types, by hand: of each E its type, of all else none.
func TestTypesByHand(t *testing.T) {
	for src, want := range map[string]string{
		inMain(""):                            "text . . . .",
		inMain("let a = 1u8; a = a;"):         "u8 . u8 . text . . . .",
		"fn f(a i8) { f(-a); } " + inMain(""): ". i8 i8 . . . . text . . . .",
		"fn f() -> i16 { return 1i16; } " + inMain("f(); let x = ~f();"): "i16 . . . i16 . i16 i16 . text . . . .",
		inMain("if 1u64 < 2u64 && true { say arg(); } else { }"):         "u64 u64 bool bool bool text . . . . text . . . .",
		inMain("while has(\"\") { break; continue; }"):                   "text bool . . . . text . . . .",
		inMain("write read(\"\"), cut(\"\", 1, 2);"):                     "text text text i64 i64 text . text . . . .",
		inMain("let x = at(\"\", i64(1u32)); fail chr(x);"):              "text u32 i64 u8 . u8 text . text . . . .",
		inMain("let x = len(\"\") + find(\"\", \"\") * num(\"\");"):      "text i64 text text i64 text i64 i64 i64 . text . . . .",
		inMain("say tool(\"\", dec(1i32)) + list(\"\");"):                "text i32 text text text text text . text . . . .",
		inMain("let a = 1; if true { let b = a; } let b = \"\"; say b;"): "i64 . bool i64 . . . text . text . text . . . .",
	} {
		var got []string
		for _, typ := range impl.Types(parsed(t, src)) {
			if typ == impl.TypeNone {
				got = append(got, ".")
			} else {
				got = append(got, typeWords[typ])
			}
		}
		if s := strings.Join(got, " "); s != want {
			t.Errorf("%q: %s, want %s", src, s, want)
		}
	}
}

// What is answered is new memory, and what is given is left as it is.
func TestTypesMemory(t *testing.T) {
	tree := parsed(t, withMain("fn f(a u8) { let b = a; f(b); }"))
	whole := append(slices.Clone(tree.Nodes), impl.Node{Kind: 77}, impl.Node{Kind: 78})
	given := impl.Tree{Nodes: whole[:len(tree.Nodes)]}
	first := impl.Types(given)
	want := slices.Clone(first)
	for i := range first[:cap(first)] {
		first[:cap(first)][i] = -1
	}
	if second := impl.Types(given); !slices.Equal(second, want) {
		t.Errorf("%v, then %v", want, second)
	}
	if impl.Check(given) != (impl.Fault{}) || !same(given, tree) || whole[len(tree.Nodes)].Kind != 77 || whole[len(tree.Nodes)+1].Kind != 78 {
		t.Error("the tree is changed")
	}
}
