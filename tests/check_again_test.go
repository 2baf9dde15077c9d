package tests

import (
	"math/rand"
	"slices"
	"strings"
	"testing"

	"loop.example/kilnmill/impl"
)

// The document's table by Op: the words of the kids' types and of what is given. I is an integer type, A any type, each the same throughout a row; | stands between rows.
var unRows = []string{"", "I I", "bool bool", "I I"}
var binRows = []string{
	"", "bool bool bool", "bool bool bool", "A A bool", "A A bool",
	"I I bool|text text bool", "I I bool|text text bool", "I I bool|text text bool", "I I bool|text text bool",
	"I I I|text text text", "I I I", "I I I", "I I I", "I I I", "I I I", "I I I", "I I I", "I I I", "I I I",
}
var builtRows = []string{
	"", "text text", "text bool", "text text", "text text text", "text", "text i64", "text i64 u8",
	"text i64 i64 text", "text text i64", "u8 text", "I text", "text i64",
}

// rowGives is the type that a row gives with these kids, TypeNone if none of its rows has them.
func rowGives(rows string, kids []int) int {
	for _, row := range strings.Split(rows, "|") {
		for typ := impl.TypeBool; typ <= impl.TypeI64; typ++ {
			// I and A stand for one type after the other.
			var types []int
			for _, w := range strings.Fields(row) {
				switch {
				case w == "A", w == "I" && typ >= impl.TypeU8:
					types = append(types, typ)
				default:
					types = append(types, slices.Index(typeWords, w))
				}
			}
			last := len(types) - 1
			if slices.Equal(types[:last], kids) && types[last] > impl.TypeNone {
				return types[last]
			}
		}
	}
	return impl.TypeNone
}

// model says of each node, by its number, what the document's words say of it.
type model struct {
	nodes  []impl.Node
	above  []int
	kids   [][]int
	types  []int
	names  map[string][]int
	fnsBy  map[string][]int
	ending []bool
}

func newModel(tree impl.Tree) *model {
	m := &model{nodes: tree.Nodes, above: make([]int, len(tree.Nodes)), kids: make([][]int, len(tree.Nodes)),
		names: map[string][]int{}, fnsBy: map[string][]int{}}
	var loose []int
	for i, n := range tree.Nodes {
		m.above[i] = -1
		m.kids[i] = slices.Clone(loose[len(loose)-n.Kids:])
		for _, kid := range m.kids[i] {
			m.above[kid] = i
		}
		loose = append(loose[:len(loose)-n.Kids], i)
		switch n.Kind {
		case impl.NodeLet, impl.NodeParam:
			m.names[n.Text] = append(m.names[n.Text], i)
		case impl.NodeFn:
			m.fnsBy[n.Text] = append(m.fnsBy[n.Text], i)
		}
		m.ending = append(m.ending, m.ends(i))
	}
	return m
}

// isBelow says whether node i stands below node up.
func (m *model) isBelow(i, up int) bool {
	for i = m.above[i]; i >= 0; i = m.above[i] {
		if i == up {
			return true
		}
	}
	return false
}

// fnOf is the function around a node.
func (m *model) fnOf(i int) int {
	for m.nodes[i].Kind != impl.NodeFn {
		i = m.above[i]
	}
	return i
}

func (m *model) params(fn int) []int { return m.kids[fn][:len(m.kids[fn])-1] }

// sees says whether at node i the name that node by makes is visible.
func (m *model) sees(i, by int) bool {
	if m.nodes[by].Kind == impl.NodeParam {
		fn := m.above[by]
		return m.isBelow(i, m.kids[fn][len(m.kids[fn])-1])
	}
	return by < i && m.isBelow(i, m.above[by])
}

// maker is the node that makes a name visible at node i, -1 if none does.
func (m *model) maker(i int, name string) int {
	for _, by := range m.names[name] {
		if m.sees(i, by) {
			return by
		}
	}
	return -1
}

func (m *model) typeMade(by int) int {
	if m.nodes[by].Kind == impl.NodeParam {
		return m.nodes[by].Type
	}
	return m.types[m.kids[by][0]]
}

func (m *model) ends(i int) bool {
	kids := m.kids[i]
	switch m.nodes[i].Kind {
	case impl.NodeReturn, impl.NodeFail:
		return true
	case impl.NodeBlock:
		return len(kids) > 0 && m.ending[kids[len(kids)-1]]
	case impl.NodeIf:
		return len(kids) == 3 && m.ending[kids[1]] && m.ending[kids[2]]
	}
	return false
}

// gives is the type of an E whose kids have theirs, TypeNone if they do not fit.
func (m *model) gives(i int) int {
	n := m.nodes[i]
	var kids []int
	for _, kid := range m.kids[i] {
		kids = append(kids, m.types[kid])
	}
	switch n.Kind {
	case impl.NodeInt:
		return n.Type
	case impl.NodeText:
		return impl.TypeText
	case impl.NodeBool:
		return impl.TypeBool
	case impl.NodeUn:
		return rowGives(unRows[n.Op], kids)
	case impl.NodeBin:
		return rowGives(binRows[n.Op], kids)
	case impl.NodeBuilt:
		return rowGives(builtRows[n.Op], kids)
	case impl.NodeConv:
		return rowGives("I "+typeWords[n.Type], kids)
	case impl.NodeName:
		if by := m.maker(i, n.Text); by >= 0 {
			return m.typeMade(by)
		}
	case impl.NodeCall:
		if fns := m.fnsBy[n.Text]; fns != nil {
			return m.nodes[fns[0]].Type
		}
	}
	return impl.TypeNone
}

// kidsFit is the question of code 5.
func (m *model) kidsFit(i int) bool {
	n := m.nodes[i]
	typ := func(k int) int { return m.types[m.kids[i][k]] }
	switch n.Kind {
	case impl.NodeUn, impl.NodeBin, impl.NodeBuilt, impl.NodeConv:
		return m.types[i] != impl.TypeNone
	case impl.NodeIf, impl.NodeWhile:
		return typ(0) == impl.TypeBool
	case impl.NodeFail, impl.NodeSay:
		return typ(0) == impl.TypeText
	case impl.NodeWrite:
		return typ(0) == impl.TypeText && typ(1) == impl.TypeText
	case impl.NodeLet:
		return typ(0) != impl.TypeNone
	case impl.NodeSet:
		return typ(0) == m.typeMade(m.maker(i, n.Text))
	case impl.NodeCall:
		for k, param := range m.params(m.fnsBy[n.Text][0]) {
			if typ(k) != m.nodes[param].Type {
				return false
			}
		}
	}
	return true
}

// visible is how many names are visible at a node, for a parameter how many stand in front of it.
func (m *model) visible(i int) int {
	count := 0
	for _, bys := range m.names {
		for _, by := range bys {
			if m.sees(i, by) || m.nodes[i].Kind == impl.NodeParam && by < i && m.above[by] == m.above[i] {
				count++
			}
		}
	}
	return count
}

func (m *model) isMain(fn int) bool {
	return len(m.params(fn)) == 0 && m.nodes[fn].Type == impl.TypeText
}

func (m *model) returnFits(i int) bool {
	want := m.nodes[m.fnOf(i)].Type
	if len(m.kids[i]) == 0 {
		return want == impl.TypeNone
	}
	return want != impl.TypeNone && m.types[m.kids[i][0]] == want
}

func (m *model) inLoop(i int) bool {
	for at := i; at >= 0; at = m.above[at] {
		if up := m.above[at]; up >= 0 && m.nodes[up].Kind == impl.NodeWhile && m.nodes[at].Kind == impl.NodeBlock {
			return true
		}
	}
	return false
}

// isTaken is the question of code 2.
func (m *model) isTaken(i int) bool {
	n := m.nodes[i]
	if n.Kind == impl.NodeLet {
		return m.maker(i, n.Text) >= 0
	}
	return slices.ContainsFunc(m.names[n.Text], func(by int) bool { return by < i && m.above[by] == m.above[i] })
}

// code is the first code of a node, 0 if it has none.
func (m *model) code(i int) int {
	n := m.nodes[i]
	is := func(kinds ...int) bool { return slices.Contains(kinds, n.Kind) }
	switch {
	case is(impl.NodeFn) && m.fnsBy[n.Text][0] < i:
		return 1
	case is(impl.NodeLet, impl.NodeParam) && m.isTaken(i):
		return 2
	case is(impl.NodeName, impl.NodeSet) && m.maker(i, n.Text) < 0:
		return 3
	case is(impl.NodeCall) && (m.fnsBy[n.Text] == nil || len(m.params(m.fnsBy[n.Text][0])) != n.Kids):
		return 4
	case !m.kidsFit(i):
		return 5
	case is(impl.NodeBreak, impl.NodeContinue) && !m.inLoop(i):
		return 6
	case is(impl.NodeReturn) && !m.returnFits(i):
		return 7
	case is(impl.NodeFn) && n.Type != impl.TypeNone && !m.ending[i-1]:
		return 8
	case is(impl.NodeProgram) && (m.fnsBy["main"] == nil || !m.isMain(m.fnsBy["main"][0])):
		return 10
	case is(impl.NodeLet, impl.NodeParam) && m.visible(i)+1 > 200:
		return 11
	}
	return 0
}

// modelCheck is what Check and Types should answer.
func modelCheck(tree impl.Tree) (impl.Fault, []int) {
	if !modelValid(tree) {
		return impl.Fault{Code: 9}, nil
	}
	m := newModel(tree)
	for i := range m.nodes {
		m.types = append(m.types, m.gives(i))
		if code := m.code(i); code != 0 {
			return impl.Fault{Code: code, At: i}, nil
		}
	}
	return impl.Fault{}, m.types
}

// called is a function as those see it that call it.
type called struct {
	name   string
	params []int
	result int
}

// typed makes programs that fit, or nearly so.
type typed struct {
	maker
	fns    []called
	at     called
	loops  int
	names  []string
	types  []int
	wrong  int
	strays int
}

// goesWrong says, now and then, that something is to be wrong here.
func (m *typed) goesWrong() bool {
	if m.wrong == 0 || m.Intn(m.wrong) > 0 {
		return false
	}
	m.strays++
	return true
}

func (m *typed) anyType() int { return 1 + m.Intn(10) }

func (m *typed) intType() int { return impl.TypeU8 + m.Intn(8) }

// e makes an E of a type.
func (m *typed) e(typ, depth int) twig {
	if m.goesWrong() {
		typ = m.Intn(11)
	}
	if typ == impl.TypeNone {
		return m.call(typ, depth)
	}
	if depth <= 0 || m.Intn(4) == 0 {
		return m.leaf(typ)
	}
	if m.Intn(6) == 0 {
		return m.call(typ, depth)
	}
	switch {
	case typ == impl.TypeBool:
		return m.boolE(depth - 1)
	case typ == impl.TypeText:
		return m.textE(depth - 1)
	}
	return m.intE(typ, depth-1)
}

func (m *typed) leaf(typ int) twig {
	for i := range m.names {
		if m.types[i] == typ && m.Intn(2) == 0 {
			return xName(m.names[i])
		}
	}
	if m.goesWrong() {
		return xName(m.name())
	}
	switch typ {
	case impl.TypeBool:
		return xBool(int64(m.Intn(2)))
	case impl.TypeText:
		return xText(m.bytes())
	}
	return xInt(typ, int64(m.Intn(100)))
}

func (m *typed) boolE(depth int) twig {
	switch m.Intn(5) {
	case 0:
		return xUn(impl.OpNot, m.e(impl.TypeBool, depth))
	case 1:
		return xBin(impl.OpOr+m.Intn(2), m.e(impl.TypeBool, depth), m.e(impl.TypeBool, depth))
	case 2:
		typ := m.anyType()
		return xBin(impl.OpSame+m.Intn(2), m.e(typ, depth), m.e(typ, depth))
	case 3:
		typ := impl.TypeText + m.Intn(9)
		return xBin(impl.OpLess+m.Intn(4), m.e(typ, depth), m.e(typ, depth))
	}
	return xBuilt(impl.BuiltHas, m.e(impl.TypeText, depth))
}

func (m *typed) textE(depth int) twig {
	text := func() twig { return m.e(impl.TypeText, depth) }
	switch m.Intn(8) {
	case 0:
		return xBin(impl.OpAdd, text(), text())
	case 1:
		return xBuilt(impl.BuiltRead, text())
	case 2:
		return xBuilt(impl.BuiltList, text())
	case 3:
		return xBuilt(impl.BuiltTool, text(), text())
	case 4:
		return xBuilt(impl.BuiltCut, text(), m.e(impl.TypeI64, depth), m.e(impl.TypeI64, depth))
	case 5:
		return xBuilt(impl.BuiltChr, m.e(impl.TypeU8, depth))
	case 6:
		return xBuilt(impl.BuiltDec, m.e(m.intType(), depth))
	}
	return xBuilt(impl.BuiltArg)
}

func (m *typed) intE(typ, depth int) twig {
	text := func() twig { return m.e(impl.TypeText, depth) }
	switch kind := m.Intn(6); {
	case kind == 0:
		return xUn([]int{impl.OpNeg, impl.OpInv}[m.Intn(2)], m.e(typ, depth))
	case kind == 1:
		return xConv(typ, m.e(m.intType(), depth))
	case kind == 2 && typ == impl.TypeU8:
		return xBuilt(impl.BuiltAt, text(), m.e(impl.TypeI64, depth))
	case kind == 2 && typ == impl.TypeI64:
		switch m.Intn(3) {
		case 0:
			return xBuilt(impl.BuiltLen, text())
		case 1:
			return xBuilt(impl.BuiltNum, text())
		}
		return xBuilt(impl.BuiltFind, text(), text())
	}
	return xBin(impl.OpAdd+m.Intn(10), m.e(typ, depth), m.e(typ, depth))
}

// call calls a function that gives a type, if there is one.
func (m *typed) call(typ, depth int) twig {
	for _, i := range m.Perm(len(m.fns)) {
		f := m.fns[i]
		if f.result != typ {
			continue
		}
		var args []twig
		for _, param := range f.params {
			args = append(args, m.e(param, min(depth-1, 1)))
		}
		if m.goesWrong() {
			args = append(args, m.leaf(impl.TypeI64))
		}
		if m.goesWrong() {
			f.name = m.name()
		}
		return xCall(f.name, args...)
	}
	return m.leaf(max(typ, 1))
}

func (m *typed) block(depth int, ends bool) twig {
	before := len(m.names)
	var list []twig
	for range m.Intn(5) {
		list = append(list, m.statement(depth))
	}
	if ends && !m.goesWrong() {
		list = append(list, m.ending(depth))
	}
	m.names, m.types = m.names[:before], m.types[:before]
	return xBlock(list...)
}

// ending makes a statement that ends.
func (m *typed) ending(depth int) twig {
	switch m.Intn(4) {
	case 0:
		return xFail(m.e(impl.TypeText, depth))
	case 1:
		if depth > 0 {
			return m.choice(depth, true)
		}
	}
	return m.returns(depth)
}

func (m *typed) returns(depth int) twig {
	if m.at.result == impl.TypeNone != m.goesWrong() {
		return xReturn()
	}
	return xReturn(m.e(max(m.at.result, 1), depth))
}

func (m *typed) choice(depth int, ends bool) twig {
	kids := []twig{m.e(impl.TypeBool, depth), m.block(depth-1, ends)}
	kind := m.Intn(3)
	if ends && !m.goesWrong() {
		kind = m.Intn(2)
	}
	switch {
	case kind == 0 && depth > 0:
		kids = append(kids, m.choice(depth-1, ends))
	case kind < 2:
		kids = append(kids, m.block(depth-1, ends))
	}
	return xIf(kids...)
}

func (m *typed) let(depth int) twig {
	typ := m.anyType()
	e := m.e(typ, depth)
	name := string(rune('a' + len(m.names)%26))
	if m.goesWrong() {
		name = m.name()
	}
	m.names, m.types = append(m.names, name), append(m.types, typ)
	return xLet(name, e)
}

func (m *typed) set(depth int) twig {
	if m.goesWrong() || len(m.names) == 0 {
		return xSay(m.e(impl.TypeText, depth))
	}
	i := m.Intn(len(m.names))
	return xSet(m.names[i], m.e(m.types[i], depth))
}

func (m *typed) statement(depth int) twig {
	switch kind := m.Intn(12); {
	case kind < 3:
		return m.let(depth)
	case kind < 5:
		return m.set(depth)
	case kind == 5 && depth > 0:
		return m.choice(depth, false)
	case kind == 6 && depth > 0:
		cond := m.e(impl.TypeBool, depth)
		m.loops++
		defer func() { m.loops-- }()
		return xWhile(cond, m.block(depth-1, false))
	case kind == 7 && (m.loops > 0 || m.goesWrong()):
		return []twig{xBreak(), xContinue()}[m.Intn(2)]
	case kind == 8:
		return xWrite(m.e(impl.TypeText, depth), m.e(impl.TypeText, depth))
	case kind == 9:
		if call := m.call(m.fns[m.Intn(len(m.fns))].result, depth); call.node.Kind == impl.NodeCall {
			return xDo(call)
		}
	case kind == 10 && m.Intn(2) == 0:
		return m.returns(depth)
	}
	return xSay(m.e(impl.TypeText, depth))
}

// program makes a program; what goes wrong in it does so about once in this many choices, never with 0.
func (m *typed) program(depth, wrong int) twig {
	m.wrong, m.strays, m.fns = wrong, 0, nil
	names := []string{"f", "g", "h", "a", "b"}
	for i := range 1 + m.Intn(3) {
		f := called{name: names[i], result: m.Intn(11)}
		for range m.Intn(3) {
			f.params = append(f.params, m.anyType())
		}
		m.fns = append(m.fns, f)
	}
	if !m.goesWrong() {
		m.fns = slices.Insert(m.fns, m.Intn(len(m.fns)+1), called{name: "main", result: impl.TypeText})
	}
	if m.goesWrong() {
		m.fns = append(m.fns, m.fns[m.Intn(len(m.fns))])
	}
	var fns []twig
	for _, f := range m.fns {
		m.at, m.names, m.types = f, nil, nil
		var kids []twig
		for i, param := range f.params {
			name := string(rune('a' + i))
			if m.goesWrong() {
				name = m.name()
			}
			m.names, m.types = append(m.names, name), append(m.types, param)
			kids = append(kids, xParam(name, param))
		}
		fns = append(fns, xFn(f.name, f.result, append(kids, m.block(depth, f.result != impl.TypeNone))...))
	}
	return xProgram(fns...)
}

func newTyped(seed int64) *typed { return &typed{maker: maker{rand.New(rand.NewSource(seed))}} }

// wantModel holds Check and Types against the model, and gives the code.
func wantModel(t *testing.T, tree impl.Tree) int {
	t.Helper()
	fault, types := modelCheck(tree)
	if got := impl.Check(tree); got != fault {
		t.Fatalf("%+v, want %+v: %s", got, fault, impl.Print(tree))
	}
	got := impl.Types(tree)
	if !slices.Equal(got, types) {
		t.Fatalf("%v, want %v: %s", got, types, impl.Print(tree))
	}
	for i, n := range tree.Nodes {
		// P4: an E has a type, but for a call of a function without one.
		if fault.Code == 0 && n.Kind <= impl.NodeConv && n.Kind != impl.NodeCall && got[i] == impl.TypeNone {
			t.Fatalf("node %d has no type: %s", i, impl.Print(tree))
		}
	}
	return fault.Code
}

// P4, for programs that are made to fit, or nearly so.
func TestCheckByChance(t *testing.T) {
	m := newTyped(31)
	codes := map[int]int{}
	for i := range 12000 {
		wrong := []int{0, 8, 30, 100}[i%4]
		tree := treeOf(m.program(1+m.Intn(3), wrong))
		code := wantModel(t, tree)
		if m.strays == 0 && code != 0 {
			t.Fatalf("made to fit, but code %d: %s", code, impl.Print(tree))
		}
		codes[code]++
	}
	for _, code := range []int{0, 1, 2, 3, 4, 5, 6, 7, 8, 10} {
		if codes[code] < 20 {
			t.Errorf("code %d: %d times (%v)", code, codes[code], codes)
		}
	}
}

// P4, for programs that fit in which one node is changed, and for trees of all sorts.
func TestCheckBent(t *testing.T) {
	m := newTyped(32)
	codes := map[int]int{}
	for range 12000 {
		tree := treeOf(m.program(1+m.Intn(3), 0))
		m.retype(&tree.Nodes[m.Intn(len(tree.Nodes))])
		codes[wantModel(t, tree)]++
	}
	for range 4000 {
		tree := treeOf(m.maker.program(1 + m.Intn(3)))
		codes[wantModel(t, tree)]++
		m.bend(&tree)
		codes[wantModel(t, tree)]++
	}
	for _, code := range []int{0, 1, 2, 3, 4, 5, 6, 7, 8, 9, 10} {
		if codes[code] < 10 {
			t.Errorf("code %d: %d times (%v)", code, codes[code], codes)
		}
	}
}

// retype changes what a node is called, its type or its Op, or what leaves a loop into a return and so on.
func (m *typed) retype(n *impl.Node) {
	if n.Text != "" && n.Kind != impl.NodeText && m.Intn(2) == 0 {
		n.Text = []string{"a", "b", "c", "f", "g", "main"}[m.Intn(6)]
		return
	}
	switch n.Kind {
	case impl.NodeInt, impl.NodeConv:
		n.Type = m.intType()
	case impl.NodeParam:
		n.Type = m.anyType()
	case impl.NodeFn:
		n.Type = m.Intn(11)
	case impl.NodeUn:
		n.Op = 1 + m.Intn(3)
	case impl.NodeBin:
		n.Op = 1 + m.Intn(18)
	case impl.NodeSay, impl.NodeFail:
		n.Kind = []int{impl.NodeSay, impl.NodeFail, impl.NodeReturn}[m.Intn(3)]
	case impl.NodeBreak, impl.NodeContinue:
		n.Kind = []int{impl.NodeBreak, impl.NodeContinue, impl.NodeReturn}[m.Intn(3)]
	case impl.NodeReturn:
		if n.Kids == 0 {
			n.Kind = impl.NodeBreak + m.Intn(2)
		} else {
			n.Kind = []int{impl.NodeSay, impl.NodeFail}[m.Intn(2)]
		}
	case impl.NodeText:
		*n = impl.Node{Kind: impl.NodeBool}
	case impl.NodeBool:
		*n = impl.Node{Kind: impl.NodeInt, Type: m.intType()}
	}
}
