package tests

import (
	"fmt"
	"reflect"
	"slices"
	"testing"

	"loop.example/kilnmill/impl"
)

// A second way to make code: from the list of nodes, each node's piece joined from those of its kids. Within a piece an instruction that leads elsewhere says how far, so that nothing is ever patched but what leaves a loop.

// madeIns is an instruction of a piece.
type madeIns struct {
	impl.Ins
	// far is how far it is to where it leads; waits the kind of node that waits for the loop around it.
	far   int
	waits int
}

func far(op, by int) madeIns { return madeIns{Ins: cOp(op, 0), far: by} }

// piece joins instructions and pieces.
func piece(parts ...any) []madeIns {
	var list []madeIns
	for _, part := range parts {
		switch p := part.(type) {
		case impl.Ins:
			list = append(list, madeIns{Ins: p})
		case madeIns:
			list = append(list, p)
		case []madeIns:
			list = append(list, p...)
		}
	}
	return list
}

// slotOf is the slot of the name that a NodeLet or NodeParam makes.
func (m *model) slotOf(by int) int {
	if m.nodes[by].Kind == impl.NodeParam {
		return slices.Index(m.kids[m.above[by]], by)
	}
	return m.visible(by)
}

// pieceOf makes the piece of a node whose kids have these.
func (m *model) pieceOf(i int, kids [][]madeIns) []madeIns {
	n, step, all := m.nodes[i], cOp(impl.InsStep, 0), piece()
	for _, kid := range kids {
		all = append(all, kid...)
	}
	slot := func() int { return m.slotOf(m.maker(i, n.Text)) }
	fn := func(i int) int { return slices.Index(m.kids[len(m.nodes)-1], m.fnsBy[m.nodes[i].Text][0]) }
	switch n.Kind {
	case impl.NodeInt:
		return piece(impl.Ins{Op: 1, A: n.Type, N: n.N})
	case impl.NodeText:
		return piece(impl.Ins{Op: 1, A: 2, Text: n.Text})
	case impl.NodeBool:
		return piece(impl.Ins{Op: 1, A: 1, N: n.N})
	case impl.NodeName:
		return piece(cOp(2, slot()))
	case impl.NodeUn:
		return piece(all, cOp(5, n.Op))
	case impl.NodeBin:
		return pieceOfBin(n.Op, kids)
	case impl.NodeCall:
		return piece(all, cOp(9, fn(i)))
	case impl.NodeBuilt:
		return piece(all, cOp(8, n.Op))
	case impl.NodeConv:
		return piece(all, cOp(7, n.Type))
	case impl.NodeLet:
		return piece(step, all, cOp(3, m.slotOf(i)))
	case impl.NodeSet:
		return piece(step, all, cOp(3, slot()))
	case impl.NodeIf:
		return pieceOfIf(kids)
	case impl.NodeWhile:
		return pieceOfWhile(kids[0], kids[1])
	case impl.NodeBreak, impl.NodeContinue:
		return piece(step, madeIns{Ins: cOp(10, 0), waits: n.Kind})
	case impl.NodeReturn:
		return piece(step, all, cOp(12, len(kids)))
	case impl.NodeFail:
		return piece(step, all, cOp(13, 0))
	case impl.NodeWrite:
		return piece(step, all, cOp(14, 0))
	case impl.NodeSay:
		return piece(step, all, cOp(15, 0))
	case impl.NodeDo:
		if call := m.kids[i][0]; m.nodes[m.fnsBy[m.nodes[call].Text][0]].Type != 0 {
			return piece(step, all, cOp(4, 0))
		}
		return piece(step, all)
	}
	// A block, and what is above it.
	return all
}

func pieceOfBin(op int, kids [][]madeIns) []madeIns {
	first, second := kids[0], kids[1]
	yes, no := impl.Ins{Op: 1, A: 1, N: 1}, impl.Ins{Op: 1, A: 1}
	switch op {
	case impl.OpOr:
		return piece(first, far(11, 3), yes, far(10, 1+len(second)), second)
	case impl.OpAnd:
		return piece(first, far(11, 2+len(second)), second, far(10, 2), no)
	}
	return piece(first, second, cOp(6, op))
}

func pieceOfIf(kids [][]madeIns) []madeIns {
	step, cond, then := cOp(16, 0), kids[0], kids[1]
	if len(kids) == 2 {
		return piece(step, cond, far(11, 1+len(then)), then)
	}
	return piece(step, cond, far(11, 2+len(then)), then, far(10, 1+len(kids[2])), kids[2])
}

func pieceOfWhile(cond, body []madeIns) []madeIns {
	step := cOp(16, 0)
	loop := piece(step, cond, far(11, 2+len(body)), body, far(10, -2-len(body)-len(cond)))
	for at := range loop {
		switch loop[at].waits {
		case impl.NodeBreak:
			loop[at].far = len(loop) - at
		case impl.NodeContinue:
			loop[at].far = -at
		}
		loop[at].waits = 0
	}
	return piece(step, loop)
}

// modelCompile is what Compile should answer.
func modelCompile(tree impl.Tree) impl.Code {
	if impl.Check(tree) != (impl.Fault{}) {
		return impl.Code{}
	}
	m := newModel(tree)
	var code impl.Code
	pieces := make([][]madeIns, len(m.nodes))
	slots := 0
	for i, n := range m.nodes {
		var kids [][]madeIns
		for _, kid := range m.kids[i] {
			kids = append(kids, pieces[kid])
			pieces[kid] = nil
		}
		pieces[i] = m.pieceOf(i, kids)
		switch n.Kind {
		case impl.NodeLet, impl.NodeParam:
			slots = max(slots, m.slotOf(i)+1)
		case impl.NodeFn:
			code.Fns = append(code.Fns, m.fnOfPiece(i, slots, pieces[i]))
			slots = 0
		}
	}
	return code
}

func (m *model) fnOfPiece(i, slots int, list []madeIns) impl.Fn {
	n := m.nodes[i]
	fn := impl.Fn{Name: n.Text, Result: n.Type, Slots: slots}
	for _, param := range m.params(i) {
		fn.Params = append(fn.Params, m.nodes[param].Type)
	}
	for at, made := range list {
		if made.far != 0 {
			made.A = at + made.far
		}
		fn.Ins = append(fn.Ins, made.Ins)
	}
	if n.Type == impl.TypeNone {
		fn.Ins = append(fn.Ins, cOp(12, 0))
	}
	return fn
}

// checkCompile holds Compile against the second way. What is made of a tree that fits is valid (P11), and its form is read again.
func checkCompile(t *testing.T, tree impl.Tree) impl.Code {
	t.Helper()
	got, want := impl.Compile(tree), modelCompile(tree)
	if !sameCode(got, want) {
		t.Fatalf("%.3000s\n%.3000s\nwant\n%.3000s", impl.Print(tree), writtenCode(got), writtenCode(want))
	}
	if impl.Check(tree) != (impl.Fault{}) {
		if !reflect.DeepEqual(got, impl.Code{}) {
			t.Fatalf("does not fit: %v", got)
		}
		return got
	}
	if flaw := checkCode(t, got); flaw != [3]int{} {
		t.Fatalf("%.3000s\n%v of\n%.3000s", impl.Print(tree), flaw, writtenCode(got))
	}
	return got
}

// engine runs a code as chapter 7 says of each instruction.
type engine struct {
	*replay
	code impl.Code
	arg  string
}

// codeRun tells for each beginning of the replies what the code of a tree does, as modelMean does it of the tree.
func codeRun(c impl.Code, j impl.Job, replies []impl.Reply) []impl.Turn {
	r := newReplay(j, replies)
	e := engine{replay: r, code: c, arg: j.Arg}
	r.turns = append(r.turns, r.ended(e.main))
	return r.turns
}

func (e engine) main() impl.Value {
	main := func(fn impl.Fn) bool { return fn.Name == "main" }
	return e.call(slices.IndexFunc(e.code.Fns, main), nil)
}

// call does a function whose step has been made.
func (e engine) call(f int, args []impl.Value) impl.Value {
	e.calls++
	fn := e.code.Fns[f]
	slots := make([]impl.Value, fn.Slots)
	copy(slots, args)
	var stack []impl.Value
	for at := 0; ; {
		ins := fn.Ins[at]
		rest := len(stack) - modelTakes(e.code, ins)
		v := slices.Clone(stack[rest:])
		stack = stack[:rest]
		at++
		switch ins.Op {
		case impl.InsLoad:
			stack = append(stack, slots[ins.A])
		case impl.InsStore:
			slots[ins.A] = v[0]
		case impl.InsJump:
			at = ins.A
		case impl.InsUnless:
			if v[0] == vBool(false) {
				at = ins.A
			}
		case impl.InsReturn:
			e.calls--
			return append(v, impl.Value{})[0]
		default:
			stack = append(stack, e.does(fn.Name, ins, v)...)
		}
	}
}

// does does an instruction that goes on behind it, and gives what it puts.
func (e engine) does(fn string, ins impl.Ins, v []impl.Value) []impl.Value {
	var gives impl.Value
	var word string
	switch ins.Op {
	case impl.InsPush:
		return []impl.Value{{Type: ins.A, N: ins.N, Text: ins.Text}}
	case impl.InsCall:
		gives = e.calling(fn, ins.A, v)
		if e.code.Fns[ins.A].Result == impl.TypeNone {
			return nil
		}
	case impl.InsUn:
		gives, word = impl.Unary(ins.A, v[0])
	case impl.InsBin:
		gives, word = impl.Binary(ins.A, v[0], v[1])
	case impl.InsConv:
		gives, word = impl.Convert(v[0], ins.A)
	case impl.InsBuilt:
		gives, word = e.built(fn, ins.A, v)
	case impl.InsFail:
		e.end(1, v[0].Text)
	case impl.InsWrite:
		e.writes(fn, v[0].Text, v[1].Text)
		return nil
	case impl.InsSay:
		e.says(fn, v[0].Text)
		return nil
	case impl.InsStep:
		e.step()
		return nil
	case impl.InsDrop:
		return nil
	}
	if word != "" {
		e.breaksIn(fn, word)
	}
	return []impl.Value{gives}
}

func (e engine) calling(fn string, f int, v []impl.Value) impl.Value {
	if e.calls+1 > 40 {
		e.breaksIn(fn, "deep")
	}
	e.step()
	return e.call(f, v)
}

func (e engine) built(fn string, op int, v []impl.Value) (impl.Value, string) {
	switch {
	case op == impl.BuiltTool:
		tree := e.toolOf(fn, e.looksFor(fn, op, v[0].Text).Text)
		e.step()
		return engine{replay: e.replay, code: impl.Compile(tree), arg: v[1].Text}.main(), ""
	case op <= impl.BuiltList:
		return e.looksFor(fn, op, v[0].Text), ""
	case op == impl.BuiltArg:
		return vText(e.arg), ""
	}
	return impl.Built(op, v)
}

// checkDoes: the code of a tree does, look by look, what the tree does.
func checkDoes(t *testing.T, tree impl.Tree, j impl.Job, replies []impl.Reply) impl.Turn {
	t.Helper()
	got, want := codeRun(impl.Compile(tree), j, replies), modelMean(tree, j, replies)
	if !slices.EqualFunc(got, want, sameTurn) {
		t.Fatalf("%.3000s\nwith %.500q and %.500q:\n%.1000q\nwant\n%.1000q", impl.Print(tree), j, fmt.Sprint(replies), fmt.Sprint(got), fmt.Sprint(want))
	}
	return want[len(want)-1]
}

// P11, for programs that fit; and their code does what they do.
func TestCompileByChance(t *testing.T) {
	m := newTyped(81)
	ops, ends := map[int]int{}, map[string]int{}
	for i := range 6000 {
		tree := treeOf(m.program(1+m.Intn(3), 0))
		m.runnable(&tree)
		for _, fn := range checkCompile(t, tree).Fns {
			for _, ins := range fn.Ins {
				ops[ins.Op]++
			}
		}
		if i%3 == 0 {
			checkCompile(t, impl.Fold(tree))
		}
		turn := checkDoes(t, tree, m.job(), m.replies())
		ends[fmt.Sprint(turn.Over, turn.Code)]++
	}
	for op := impl.InsPush; op <= impl.InsStep; op++ {
		if ops[op] < 500 {
			t.Errorf("instruction %d: %d times (%v)", op, ops[op], ops)
		}
	}
	for _, end := range []string{"true 0", "true 1", "true 2", "true 3", "true 4", "true 5", "false 0"} {
		if ends[end] < 30 {
			t.Errorf("%s: %d times (%v)", end, ends[end], ends)
		}
	}
}

// Trees that nearly fit, and trees of all sorts.
func TestCompileBent(t *testing.T) {
	m := newTyped(82)
	fit, unfit := 0, 0
	for i := range 6000 {
		tree := treeOf(m.program(1+m.Intn(2), 0))
		switch i % 3 {
		case 0:
			m.retype(&tree.Nodes[m.Intn(len(tree.Nodes))])
		case 1:
			m.bend(&tree)
		case 2:
			tree = treeOf(m.program(1+m.Intn(2), 60))
		}
		if len(checkCompile(t, tree).Fns) > 0 {
			fit++
		} else {
			unfit++
		}
	}
	if fit < 500 || unfit < 500 {
		t.Errorf("%d fit, %d do not", fit, unfit)
	}
}
