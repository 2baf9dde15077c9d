package tests

import (
	"math"
	"regexp"
	"slices"
	"strings"
	"testing"

	"loop.example/kilnmill/impl"
)

func wantValid(t *testing.T, what string, tree impl.Tree) {
	t.Helper()
	if !impl.ValidTree(tree) {
		t.Errorf("%s: not valid", what)
	}
	if s := impl.Print(tree); s != "" {
		if got, f := impl.Parse(s); f != (impl.Fault{}) || !same(got, tree) {
			t.Errorf("%s: read as another tree, %+v", what, f)
		}
	}
}

func wantInvalid(t *testing.T, what string, tree impl.Tree) {
	t.Helper()
	if impl.ValidTree(tree) {
		t.Errorf("%s: valid", what)
	}
	if s := impl.Print(tree); s != "" {
		t.Errorf("%s: printed as %q", what, s)
	}
}

// Of each kind the fields it uses: o for Op, t for Type, n for N, x for Text.
var usedFields = []string{"", "tn", "x", "n", "x", "o", "o", "x", "o", "t", "x", "x", "", "", "", "", "", "", "", "", "", "", "tx", "tx", ""}

var nameForm = regexp.MustCompile(`^[a-z][a-z0-9_]{0,29}$`)

func goodName(s string) bool {
	return nameForm.MatchString(s) && !slices.Contains(strings.Fields(allWords), s)
}

// goodFields says by the document's words whether the fields of a node, but for Kids, are right.
func goodFields(n impl.Node) bool {
	if n.Kind < impl.NodeInt || n.Kind > impl.NodeProgram {
		return false
	}
	uses := usedFields[n.Kind]
	if !strings.Contains(uses, "o") && n.Op != 0 || !strings.Contains(uses, "t") && n.Type != 0 ||
		!strings.Contains(uses, "n") && n.N != 0 || !strings.Contains(uses, "x") && n.Text != "" {
		return false
	}
	switch n.Kind {
	case impl.NodeInt:
		for _, c := range greatestNumbers {
			if c.typ == n.Type {
				return n.Type == impl.TypeU64 || n.N >= 0 && n.N <= c.n
			}
		}
		return false
	case impl.NodeText:
		return len(n.Text) <= 3000
	case impl.NodeBool:
		return n.N == 0 || n.N == 1
	case impl.NodeUn:
		return n.Op >= 1 && n.Op <= 3
	case impl.NodeBin:
		return n.Op >= 1 && n.Op <= 18
	case impl.NodeBuilt:
		return n.Op >= 1 && n.Op <= 12
	case impl.NodeConv:
		return n.Type >= 3 && n.Type <= 10
	case impl.NodeParam:
		return goodName(n.Text) && n.Type >= 1 && n.Type <= 10
	case impl.NodeFn:
		return goodName(n.Text) && n.Type >= 0 && n.Type <= 10
	}
	return uses == "" || goodName(n.Text)
}

// Kinds of kids in the letters of the document: E, S, B, and P, F, C, I for NodeParam, NodeFn, NodeCall, NodeIf.
var kidForms = []string{"", "", "", "", "", "E", "EE", "E{0,8}", "E{0,3}", "E", "E", "E", "EB[BI]?", "EB", "", "", "E?", "E", "EE", "E", "C", "[SI]*", "", "P{0,8}B", "F{1,60}"}

var kidRegexps = func() (list []*regexp.Regexp) {
	for _, form := range kidForms {
		list = append(list, regexp.MustCompile("^(?:"+form+")$"))
	}
	return list
}()

func kidLetter(kind int) string {
	switch {
	case kind == impl.NodeCall:
		return "C"
	case kind <= impl.NodeConv:
		return "E"
	case kind == impl.NodeIf:
		return "I"
	case kind <= impl.NodeDo:
		return "S"
	case kind == impl.NodeBlock:
		return "B"
	case kind == impl.NodeParam:
		return "P"
	case kind == impl.NodeFn:
		return "F"
	}
	return "?"
}

func goodKids(n impl.Node, letters string) bool {
	// A call is an E; only for NodeDo it plays a part which one.
	if n.Kind != impl.NodeDo {
		letters = strings.ReplaceAll(letters, "C", "E")
	}
	if n.Kind == impl.NodeBuilt && len(letters) != builtKids[n.Op] {
		return false
	}
	return kidRegexps[n.Kind].MatchString(letters)
}

// modelValid goes from the root down, from the last node to the first.
func modelValid(tree impl.Tree) bool {
	at := len(tree.Nodes) - 1
	if at < 0 || at >= 12001 || tree.Nodes[at].Kind != impl.NodeProgram {
		return false
	}
	var down func(above int) bool
	down = func(above int) bool {
		n := tree.Nodes[at]
		at--
		if above > 60 || !goodFields(n) || n.Kids < 0 || n.Kids > at+1 {
			return false
		}
		letters := ""
		for range n.Kids {
			if at < 0 {
				return false
			}
			letters = kidLetter(tree.Nodes[at].Kind) + letters
			if !down(above + 1) {
				return false
			}
		}
		return goodKids(n, letters)
	}
	return down(0) && at == -1
}

func TestValidKinds(t *testing.T) {
	wantValid(t, "all kinds", treeOf(allKinds()))
	if !modelValid(treeOf(allKinds())) {
		t.Error("the model is wrong")
	}
	wantInvalid(t, "nothing", impl.Tree{})
	wantInvalid(t, "an empty list", impl.Tree{Nodes: []impl.Node{}})
	wantInvalid(t, "no function", treeOf(xProgram()))
	wantInvalid(t, "a function alone", treeOf(xFn("f", 0, xBlock())))
	wantInvalid(t, "a block alone", treeOf(xBlock()))
	wantInvalid(t, "an E alone", treeOf(xNum(1)))
	wantInvalid(t, "a program in a program", treeOf(xProgram(xMain())))
	wantInvalid(t, "a program in a block", treeOf(xMain(xMain())))
	wantInvalid(t, "a block in a block", treeOf(xMain(xBlock())))
	wantInvalid(t, "an E in a block", treeOf(xMain(xNum(1))))
	wantInvalid(t, "a call in a block", treeOf(xMain(xCall("g"))))
	wantInvalid(t, "a function in a block", treeOf(xMain(xFn("g", 0, xBlock()))))
	wantInvalid(t, "a parameter in a block", treeOf(xMain(xParam("a", 1))))
	wantInvalid(t, "a function without a block", treeOf(xProgram(xFn("f", 0))))
	wantInvalid(t, "a function of parameters", treeOf(xProgram(xFn("f", 0, xParam("a", 1)))))
	wantInvalid(t, "a parameter behind the block", treeOf(xProgram(xFn("f", 0, xBlock(), xParam("a", 1)))))
	wantInvalid(t, "two blocks", treeOf(xProgram(xFn("f", 0, xBlock(), xBlock()))))
	wantInvalid(t, "a block as a function", treeOf(xProgram(xBlock())))
	wantInvalid(t, "if with an E alone", treeOf(xMain(xIf(xNum(1)))))
	wantInvalid(t, "if with nothing", treeOf(xMain(xIf())))
	wantInvalid(t, "if with blocks alone", treeOf(xMain(xIf(xBlock(), xBlock()))))
	wantInvalid(t, "if with four", treeOf(xMain(xIf(xNum(1), xBlock(), xBlock(), xBlock()))))
	wantInvalid(t, "else with a while", treeOf(xMain(xIf(xNum(1), xBlock(), xWhile(xNum(1), xBlock())))))
	wantInvalid(t, "else with an E", treeOf(xMain(xIf(xNum(1), xBlock(), xNum(1)))))
	wantInvalid(t, "then with an if", treeOf(xMain(xIf(xNum(1), xIf(xNum(1), xBlock()), xBlock()))))
	wantInvalid(t, "do of an E", treeOf(xMain(xDo(xNum(1)))))
	wantInvalid(t, "do of a word", treeOf(xMain(xDo(xBuilt(impl.BuiltArg)))))
	wantInvalid(t, "do of nothing", treeOf(xMain(grow(impl.Node{Kind: impl.NodeDo}))))
	wantInvalid(t, "do of two", treeOf(xMain(grow(impl.Node{Kind: impl.NodeDo}, xCall("g"), xCall("g")))))
	wantInvalid(t, "two returned", treeOf(xMain(xReturn(xNum(1), xNum(1)))))
	wantInvalid(t, "a statement as E", treeOf(xMain(xSay(xBreak()))))
	wantInvalid(t, "a block as E", treeOf(xMain(xSay(xBlock()))))
	for _, kind := range []int{0, -1, 25, 26, math.MaxInt, math.MinInt, 6 - 1<<32} {
		for i := range treeOf(allKinds()).Nodes {
			tree := treeOf(allKinds())
			tree.Nodes[i].Kind = kind
			wantInvalid(t, "a kind that is none", tree)
		}
	}
}

// Each node of a tree with all kinds gets every kind; the model knows what is right.
func TestValidOtherKinds(t *testing.T) {
	base := treeOf(allKinds())
	valid := 0
	for i := range base.Nodes {
		for kind := impl.NodeInt; kind <= impl.NodeProgram; kind++ {
			for _, n := range []impl.Node{{}, {Op: 1}, {Type: 3}, {Text: "a"}, {Text: "a", Type: 3}} {
				n.Kind = kind
				n.Kids = base.Nodes[i].Kids
				tree := impl.Tree{Nodes: slices.Clone(base.Nodes)}
				tree.Nodes[i] = n
				if modelValid(tree) {
					wantValid(t, "another kind", tree)
					valid++
				} else {
					wantInvalid(t, "another kind", tree)
				}
			}
		}
	}
	if valid < 500 {
		t.Errorf("%d valid", valid)
	}
}

func TestValidFields(t *testing.T) {
	base := treeOf(allKinds())
	long := strings.Repeat("n", 31)
	texts := []string{"", "a", long, long[1:], "a_9", "_a", "9a", "A", "a b", "a-b", "\u00e9", "a\x00", "fn", "text", "num", "u8", " ", "a\n", strings.Repeat("x", 3000), strings.Repeat("x", 3001)}
	numbers := []int64{-1, 0, 1, 2, 3, 4, 10, 11, 12, 13, 18, 19, 127, 128, 255, 256, 32767, 32768, 65535, 65536, math.MaxInt32, math.MaxInt32 + 1, math.MaxUint32, math.MaxUint32 + 1, math.MaxInt64, math.MinInt64, -2}
	for i, n := range base.Nodes {
		try := func(changed impl.Node) {
			tree := impl.Tree{Nodes: slices.Clone(base.Nodes)}
			tree.Nodes[i] = changed
			good := goodFields(changed)
			if n.Kind == impl.NodeBuilt && changed.Op != n.Op && good {
				good = builtKids[changed.Op] == n.Kids
			}
			if good {
				wantValid(t, "a field that may be so", tree)
			} else {
				wantInvalid(t, "a field that may not be so", tree)
			}
		}
		for _, s := range texts {
			c := n
			c.Text = s
			try(c)
		}
		for _, x := range numbers {
			c := n
			c.N = x
			try(c)
			c = n
			c.Op = int(x)
			try(c)
			c = n
			c.Type = int(x)
			try(c)
		}
	}
}

func TestValidNumbers(t *testing.T) {
	for _, c := range greatestNumbers {
		wantValid(t, "the greatest", treeOf(xMain(xSay(xInt(c.typ, c.n)))))
		wantValid(t, "0", treeOf(xMain(xSay(xInt(c.typ, 0)))))
		if c.typ == impl.TypeU64 {
			wantValid(t, "u64 with its highest bit", treeOf(xMain(xSay(xInt(c.typ, math.MinInt64)))))
			continue
		}
		wantInvalid(t, "one more", treeOf(xMain(xSay(xInt(c.typ, c.n+1)))))
		wantInvalid(t, "-1", treeOf(xMain(xSay(xInt(c.typ, -1)))))
		wantInvalid(t, "the least", treeOf(xMain(xSay(xInt(c.typ, math.MinInt64)))))
		wantInvalid(t, "the least of the type", treeOf(xMain(xSay(xInt(c.typ, -c.n-1)))))
	}
	for _, typ := range []int{0, 1, 2, -1, 11, math.MaxInt, math.MinInt, 1 << 32} {
		wantInvalid(t, "no integer type", treeOf(xMain(xSay(xInt(typ, 0)))))
		wantInvalid(t, "no integer type", treeOf(xMain(xSay(xConv(typ, xNum(0))))))
	}
}

func TestValidCounts(t *testing.T) {
	fill := func(n int, w twig) []twig { return slices.Repeat([]twig{w}, n) }
	fn := xFn("f", 0, xBlock())
	wantValid(t, "one function", treeOf(xProgram(fn)))
	wantValid(t, "functions", treeOf(xProgram(fill(impl.MaxFns, fn)...)))
	wantInvalid(t, "functions", treeOf(xProgram(fill(impl.MaxFns+1, fn)...)))
	for _, more := range []int{0, 1} {
		want := wantValid
		if more > 0 {
			want = wantInvalid
		}
		params := append(fill(impl.MaxArgs+more, xParam("a", impl.TypeU8)), xBlock())
		want(t, "parameters", treeOf(xProgram(xFn("f", 0, params...))))
		args := fill(impl.MaxArgs+more, xNum(1))
		want(t, "kids of a call", treeOf(xMain(xSay(xCall("g", args...)))))
		want(t, "kids of a call that is done", treeOf(xMain(xDo(xCall("g", args...)))))
		want(t, "nodes", treeOf(xMain(fill(impl.MaxNodes-3+more, xBreak())...)))
		want(t, "a text", treeOf(xMain(xSay(xText(strings.Repeat("\xff", impl.MaxText+more))))))
		name := strings.Repeat("z", impl.MaxName+more)
		want(t, "the name of a NodeName", treeOf(xMain(xSay(xName(name)))))
		want(t, "the name of a NodeCall", treeOf(xMain(xSay(xCall(name)))))
		want(t, "the name of a NodeLet", treeOf(xMain(xLet(name, xNum(1)))))
		want(t, "the name of a NodeSet", treeOf(xMain(xSet(name, xNum(1)))))
		want(t, "the name of a NodeParam", treeOf(xProgram(xFn("f", 0, xParam(name, 1), xBlock()))))
		want(t, "the name of a NodeFn", treeOf(xProgram(xFn(name, 0, xBlock()))))
	}
	for op := impl.BuiltRead; op <= impl.BuiltNum; op++ {
		for kids := range 6 {
			tree := treeOf(xMain(xSay(xBuilt(op, fill(kids, xNum(1))...))))
			if kids == builtKids[op] {
				wantValid(t, "a word", tree)
			} else {
				wantInvalid(t, "a word", tree)
			}
		}
	}
	for _, w := range strings.Fields(allWords) {
		wantInvalid(t, w, treeOf(xMain(xSay(xName(w)))))
		wantInvalid(t, w, treeOf(xProgram(xFn(w, 0, xBlock()))))
		wantValid(t, w+"_", treeOf(xMain(xSay(xName(w+"_")))))
	}
}

func TestValidDepth(t *testing.T) {
	for levels := impl.MaxNest - 3; levels <= impl.MaxNest+5; levels++ {
		want := wantValid
		if levels > impl.MaxNest+1 {
			want = wantInvalid
		}
		e := xNum(1)
		for range levels - 5 {
			e = xUn(impl.OpNeg, e)
		}
		want(t, "marks in front", treeOf(xMain(xSay(e))))
		want(t, "marks in front, first of more", treeOf(xMain(xSay(e), xBreak())))
		want(t, "marks in front, last of more", treeOf(xMain(xBreak(), xSay(e))))
		s := xIf(xNum(1), xBlock())
		for range levels - 5 {
			s = xIf(xNum(1), xBlock(), s)
		}
		want(t, "else if", treeOf(xMain(s)))
		c := xCall("g")
		for range levels - 5 {
			c = xCall("g", xNum(1), c, xNum(1))
		}
		want(t, "calls", treeOf(xMain(xDo(c))))
	}
	nodes := treeOf(xMain(xSay(xNum(1)))).Nodes
	long := slices.Concat(nodes[:1], slices.Repeat([]impl.Node{{Kind: impl.NodeUn, Op: 1, Kids: 1}}, impl.MaxNodes-5), nodes[1:])
	wantInvalid(t, "as deep as nodes allow", impl.Tree{Nodes: long})
}

// Lists of which no Parse gives one.
func TestValidLists(t *testing.T) {
	base := treeOf(xMain(xSay(xCall("g", xNum(1), xNum(2))), xWhile(xNum(1), xBlock())))
	for i, n := range base.Nodes {
		for _, kids := range []int{-1, -2, math.MinInt, math.MaxInt, n.Kids - 1, n.Kids + 1, len(base.Nodes), i, i + 1, 1 << 32} {
			tree := impl.Tree{Nodes: slices.Clone(base.Nodes)}
			tree.Nodes[i].Kids = kids
			if kids == n.Kids || modelValid(tree) {
				wantValid(t, "Kids", tree)
			} else {
				wantInvalid(t, "Kids", tree)
			}
		}
		without := impl.Tree{Nodes: slices.Delete(slices.Clone(base.Nodes), i, i+1)}
		twice := impl.Tree{Nodes: slices.Insert(slices.Clone(base.Nodes), i, n)}
		for _, tree := range []impl.Tree{without, twice} {
			if modelValid(tree) {
				wantValid(t, "a node less or more", tree)
			} else {
				wantInvalid(t, "a node less or more", tree)
			}
		}
		if i > 0 {
			wantInvalid(t, "a beginning", impl.Tree{Nodes: base.Nodes[:i]})
		}
	}
	wantInvalid(t, "two roots", impl.Tree{Nodes: slices.Concat(base.Nodes, base.Nodes)})
	wantInvalid(t, "two roots, the first no program", impl.Tree{Nodes: slices.Concat([]impl.Node{{Kind: impl.NodeBreak}}, base.Nodes)})
	wantInvalid(t, "something behind the root", impl.Tree{Nodes: slices.Concat(base.Nodes, []impl.Node{{Kind: impl.NodeBreak}})})
	wantInvalid(t, "turned around", impl.Tree{Nodes: func() []impl.Node {
		list := slices.Clone(base.Nodes)
		slices.Reverse(list)
		return list
	}()})
	wantInvalid(t, "nodes of nothing", impl.Tree{Nodes: make([]impl.Node, 3)})
	wantInvalid(t, "very many", impl.Tree{Nodes: make([]impl.Node, 100000)})
	roots := treeOf(xProgram(xFn("f", 0, xBlock()), xFn("g", 0, xBlock())))
	roots.Nodes[len(roots.Nodes)-1].Kids = 1
	wantInvalid(t, "a function that is nobody's", roots)
}
