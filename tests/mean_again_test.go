package tests

import (
	"fmt"
	"maps"
	"regexp"
	"slices"
	"strings"
	"testing"

	"loop.example/kilnmill/impl"
)

// A second way to run: on the numbers of the nodes, with values kept by the node that makes their name, and with ends that are thrown.

// replay is what all calls of a run have in common.
type replay struct {
	job     impl.Job
	replies []impl.Reply
	steps   int
	looks   int
	calls   int
	files   map[string]string
	said    []string
	// turns has what is to be told at each look if it had no reply, and at last what the run came to.
	turns []impl.Turn
}

// callOf is a call: of this node of a program that is called with this arg.
type callOf struct {
	*replay
	*model
	arg  string
	fn   int
	held map[int]impl.Value
}

var fileForm = regexp.MustCompile(`^[!-~]{1,60}$`)
var listForm = regexp.MustCompile(`^[!-~]{0,60}$`)

func isModelJob(j impl.Job) bool {
	for i, name := range j.Outs {
		if !fileForm.MatchString(name) || i > 0 && textSign(j.Outs[i-1], name) >= 0 {
			return false
		}
	}
	return len(j.Arg) <= 3000 && len(j.Outs) <= 20
}

func isModelReply(y impl.Reply) bool {
	return y.Code == 0 && len(y.Text) <= 3000 || y == impl.Reply{Code: 4} || y == impl.Reply{Code: 5}
}

// modelMean tells for each beginning of the replies what Mean should answer; what comes last holds for all longer ones.
func modelMean(tree impl.Tree, j impl.Job, replies []impl.Reply) []impl.Turn {
	wrong := func(y impl.Reply) bool { return !isModelReply(y) }
	if impl.Check(tree) != (impl.Fault{}) || !isModelJob(j) || len(replies) > 100 || slices.ContainsFunc(replies, wrong) {
		return []impl.Turn{{Code: 9}}
	}
	r := newReplay(j, replies)
	r.turns = append(r.turns, r.ended(func() impl.Value { return r.program(tree, j.Arg) }))
	return r.turns
}

func newReplay(j impl.Job, replies []impl.Reply) *replay {
	return &replay{job: j, replies: replies, files: map[string]string{}}
}

// ended runs a program until an end is thrown.
func (r *replay) ended(main func() impl.Value) (t impl.Turn) {
	defer func() {
		// Anything else that is thrown is a fault of this way itself.
		t = recover().(impl.Turn)
	}()
	r.step()
	text := main().Text
	for _, name := range r.job.Outs {
		if _, ok := r.files[name]; !ok {
			r.end(2, "lacks "+name)
		}
	}
	r.end(0, text)
	return t
}

func (r *replay) end(code int, text string) {
	t := impl.Turn{Over: true, Code: code, Text: text, Steps: r.steps, Said: slices.Clone(r.said)}
	for _, name := range slices.Sorted(maps.Keys(r.files)) {
		if code == 0 {
			t.Files = append(t.Files, impl.File{Name: name, Text: r.files[name]})
		}
	}
	panic(t)
}

func (r *replay) step() {
	if r.steps+1 > 4000 {
		r.end(3, "")
	}
	r.steps++
}

// program calls the main of a program, whose step has been made.
func (r *replay) program(tree impl.Tree, arg string) impl.Value {
	m := newModel(tree)
	c := callOf{replay: r, model: m, arg: arg, fn: m.fnsBy["main"][0], held: map[int]impl.Value{}}
	return c.body()
}

func (c callOf) body() impl.Value {
	c.calls++
	kids := c.kids[c.fn]
	_, v := c.do(kids[len(kids)-1])
	c.calls--
	return v
}

func (c callOf) breaks(word string) { c.breaksIn(c.nodes[c.fn].Text, word) }

func (r *replay) breaksIn(fn, word string) { r.end(2, word+" in "+fn) }

// do does a block or statement; it gives the kind of node by which it was left, 0 if it was done to its end.
func (c callOf) do(i int) (int, impl.Value) {
	n, kids := c.nodes[i], c.kids[i]
	if n.Kind == impl.NodeBlock {
		for _, kid := range kids {
			if left, v := c.do(kid); left != 0 {
				return left, v
			}
		}
		return 0, impl.Value{}
	}
	c.step()
	switch n.Kind {
	case impl.NodeIf:
		if c.is(kids[0]) {
			return c.do(kids[1])
		}
		if len(kids) == 3 {
			return c.do(kids[2])
		}
		return 0, impl.Value{}
	case impl.NodeWhile:
		return c.loop(kids)
	case impl.NodeBreak, impl.NodeContinue:
		return n.Kind, impl.Value{}
	}
	v := c.all(kids)
	switch n.Kind {
	case impl.NodeReturn:
		return n.Kind, append(v, impl.Value{})[0]
	case impl.NodeLet:
		c.held[i] = v[0]
	case impl.NodeSet:
		c.held[c.maker(i, n.Text)] = v[0]
	case impl.NodeFail:
		c.end(1, v[0].Text)
	case impl.NodeWrite:
		c.writes(c.nodes[c.fn].Text, v[0].Text, v[1].Text)
	case impl.NodeSay:
		c.says(c.nodes[c.fn].Text, v[0].Text)
	}
	return 0, impl.Value{}
}

func (r *replay) writes(fn, name, text string) {
	if !fileForm.MatchString(name) {
		r.breaksIn(fn, "name")
	}
	if !slices.Contains(r.job.Outs, name) {
		r.breaksIn(fn, "output")
	}
	r.files[name] = text
}

func (r *replay) says(fn, text string) {
	if len(r.said)+1 > 50 {
		r.breaksIn(fn, "said")
	}
	r.said = append(r.said, text)
}

func (c callOf) loop(kids []int) (int, impl.Value) {
	for {
		c.step()
		if !c.is(kids[0]) {
			return 0, impl.Value{}
		}
		switch left, v := c.do(kids[1]); left {
		case impl.NodeBreak:
			return 0, impl.Value{}
		case impl.NodeReturn:
			return left, v
		}
	}
}

func (c callOf) is(i int) bool { return c.e(i) == vBool(true) }

func (c callOf) all(kids []int) []impl.Value {
	var list []impl.Value
	for _, kid := range kids {
		list = append(list, c.e(kid))
	}
	return list
}

func (c callOf) e(i int) impl.Value {
	n, kids := c.nodes[i], c.kids[i]
	switch n.Kind {
	case impl.NodeInt:
		return vInt(n.Type, n.N)
	case impl.NodeText:
		return vText(n.Text)
	case impl.NodeBool:
		return vInt(impl.TypeBool, n.N)
	case impl.NodeName:
		return c.held[c.maker(i, n.Text)]
	case impl.NodeBin:
		if n.Op == impl.OpOr {
			return vBool(c.is(kids[0]) || c.is(kids[1]))
		}
		if n.Op == impl.OpAnd {
			return vBool(c.is(kids[0]) && c.is(kids[1]))
		}
	}
	v := c.all(kids)
	var word string
	var gives impl.Value
	switch {
	case n.Kind == impl.NodeUn:
		gives, word = impl.Unary(n.Op, v[0])
	case n.Kind == impl.NodeBin:
		gives, word = impl.Binary(n.Op, v[0], v[1])
	case n.Kind == impl.NodeConv:
		gives, word = impl.Convert(v[0], n.Type)
	case n.Kind == impl.NodeCall:
		return c.calling(c.fnsBy[n.Text][0], v)
	case n.Op <= impl.BuiltTool:
		return c.looking(n.Op, v)
	case n.Op == impl.BuiltArg:
		return vText(c.arg)
	default:
		gives, word = impl.Built(n.Op, v)
	}
	if word != "" {
		c.breaks(word)
	}
	return gives
}

func (c callOf) calling(fn int, args []impl.Value) impl.Value {
	if c.calls+1 > 40 {
		c.breaks("deep")
	}
	c.step()
	c.fn, c.held = fn, map[int]impl.Value{}
	for k, param := range c.params(fn) {
		c.held[param] = args[k]
	}
	return c.body()
}

func (c callOf) looking(op int, v []impl.Value) impl.Value {
	fn := c.nodes[c.fn].Text
	gives := c.looksFor(fn, op, v[0].Text)
	if op != impl.BuiltTool {
		return gives
	}
	tree := c.toolOf(fn, gives.Text)
	c.step()
	return c.program(tree, v[1].Text)
}

// looksFor is what a look gives in a function with this name; with a tool it is the tool's text.
func (r *replay) looksFor(fn string, op int, name string) impl.Value {
	if op == impl.BuiltList && !listForm.MatchString(name) || op != impl.BuiltList && !fileForm.MatchString(name) {
		r.breaksIn(fn, "name")
	}
	if r.looks+1 > 100 {
		r.end(3, "")
	}
	stop := impl.Turn{Kind: []int{0, 1, 2, 3, 1}[op], Name: name, Steps: r.steps, Said: slices.Clone(r.said)}
	if r.looks == len(r.replies) {
		panic(stop)
	}
	r.turns = append(r.turns, stop)
	reply := r.replies[r.looks]
	r.looks++
	switch {
	case op == impl.BuiltHas:
		return vBool(reply.Code != 4)
	case op != impl.BuiltList && reply.Code != 0:
		r.end(reply.Code, name)
	}
	return vText(reply.Text)
}

// toolOf is the tree of a tool's text, if it may be called.
func (r *replay) toolOf(fn, src string) impl.Tree {
	tree, fault := impl.Parse(src)
	if fault.Code != 0 || impl.Check(tree).Code != 0 {
		r.breaksIn(fn, "tool")
	}
	if r.calls+1 > 40 {
		r.breaksIn(fn, "deep")
	}
	return tree
}

func sameTurn(a, b impl.Turn) bool {
	return slices.Equal(a.Files, b.Files) && slices.Equal(a.Said, b.Said) &&
		a.Over == b.Over && a.Code == b.Code && a.Text == b.Text && a.Kind == b.Kind && a.Name == b.Name && a.Steps == b.Steps
}

// checkMean holds Mean of a tree, and of the folded one (P7), against the second way, with all replies, with beginnings of them and with more of them (P8); and so what the machine shows (P13). It gives what Mean answers to all of them.
func checkMean(t *testing.T, tree impl.Tree, j impl.Job, replies []impl.Reply) impl.Turn {
	t.Helper()
	turns := modelMean(tree, j, replies)
	last := len(turns) - 1
	folded := impl.Fold(tree)
	ask := func(y []impl.Reply, want impl.Turn) {
		t.Helper()
		for _, by := range []impl.Tree{tree, folded} {
			if got := impl.Mean(by, j, y); !sameTurn(got, want) {
				t.Fatalf("%.3000s\nwith %.500q and %d replies, %.500q:\n%.1000q\nwant\n%.1000q", impl.Print(by), j, len(y), fmt.Sprint(y), fmt.Sprint(got), fmt.Sprint(want))
			}
		}
	}
	ask(replies, turns[last])
	// Of a long list of replies only some beginnings, so that it does not take too long.
	for k := 0; k < last; k += 1 + last/10 {
		ask(replies[:k], turns[k])
	}
	if last > 0 {
		ask(replies[:last-1], turns[last-1])
		ask(replies[:last], turns[last])
	}
	if turns[last].Over && len(replies) < 100 {
		ask(append(slices.Clone(replies), impl.Reply{Text: "more"}), turns[last])
	}
	checkHeart(t, tree, j, replies, turns)
	return turns[last]
}

// runTexts are texts that say something to a run: names of files, numbers, programs, and what is none of these.
var runTexts = []string{
	"a", "b", "o", "p", "a", "b", "o", "p", "t", "-", "0", "1", "12", "-3", "", "x y", "no\n",
	inMain(""), "fn main() -> text { return arg() + \"!\"; }", "fn main() { }",
	"fn main() -> text { say arg(); write \"o\", read(\"a\"); return tool(\"t\", \"z\"); }",
	"fn f(n i64) -> text { if n > 0 { return f(n - 1) + \".\"; } fail \"f\"; } fn main() -> text { if has(\"a\") { return f(3); } return dec(1 / len(arg())); }",
}

// runnable puts such texts into a tree, and numbers that lead somewhere.
func (m *typed) runnable(tree *impl.Tree) {
	for i := range tree.Nodes {
		switch n := &tree.Nodes[i]; n.Kind {
		case impl.NodeText:
			n.Text = runTexts[m.Intn(len(runTexts))]
			if m.Intn(2) == 0 {
				n.Text = runTexts[m.Intn(4)]
			}
		case impl.NodeInt:
			n.N = int64(m.Intn(4))
		}
	}
}

// tool is the text of a made program that is short enough for a tool.
func (m *typed) tool() string {
	tree := treeOf(m.program(1, 0))
	m.runnable(&tree)
	if src := impl.Print(tree); len(src) <= 3000 {
		return src
	}
	return inMain("")
}

func (m *typed) reply() impl.Reply {
	switch m.Intn(20) {
	case 0:
		return impl.Reply{Code: impl.Missing}
	case 1:
		return impl.Reply{Code: impl.Below}
	case 2, 3, 4, 5, 6, 7:
		return impl.Reply{Text: m.tool()}
	}
	return impl.Reply{Text: runTexts[m.Intn(len(runTexts))]}
}

func (m *typed) replies() []impl.Reply {
	var list []impl.Reply
	for range m.Intn(10) {
		list = append(list, m.reply())
	}
	return list
}

func (m *typed) job() impl.Job {
	var outs []string
	for _, name := range []string{"a", "b", "o", "p"} {
		if m.Intn(5) == 0 {
			outs = append(outs, name)
		}
	}
	return impl.Job{Arg: runTexts[m.Intn(len(runTexts))], Outs: outs}
}

// P7 and P8, for programs that fit.
func TestMeanByChance(t *testing.T) {
	m := newTyped(61)
	ends, words := map[string]int{}, map[string]int{}
	for range 8000 {
		tree := treeOf(m.program(1+m.Intn(3), 0))
		m.runnable(&tree)
		turn := checkMean(t, tree, m.job(), m.replies())
		ends[fmt.Sprint(turn.Over, turn.Code, turn.Kind)]++
		if turn.Code == impl.Broken {
			words[strings.Fields(turn.Text)[0]]++
		}
	}
	for _, end := range []string{"true 0 0", "true 1 0", "true 2 0", "true 3 0", "true 4 0", "true 5 0", "false 0 1", "false 0 2", "false 0 3"} {
		if ends[end] < 50 {
			t.Errorf("%s: %d times (%v)", end, ends[end], ends)
		}
	}
	for _, word := range []string{"lacks", "deep", "name", "output", "said", "tool", "divide", "range", "number"} {
		if words[word] < 20 {
			t.Errorf("%s: %d times (%v)", word, words[word], words)
		}
	}
}

// Trees that nearly fit, and jobs and replies that are nearly valid.
func TestMeanBent(t *testing.T) {
	m := newTyped(62)
	valid, not := 0, 0
	for i := range 3000 {
		tree := treeOf(m.program(1+m.Intn(2), 0))
		m.runnable(&tree)
		job, replies := m.job(), m.replies()
		switch i % 4 {
		case 0:
			m.retype(&tree.Nodes[m.Intn(len(tree.Nodes))])
		case 1:
			m.bend(&tree)
		case 2:
			job.Outs = append(job.Outs, runTexts[m.Intn(len(runTexts))])
		case 3:
			wrong := impl.Reply{Code: m.Intn(7) - 1, Text: runTexts[m.Intn(len(runTexts))]}
			replies = slices.Insert(replies, m.Intn(len(replies)+1), wrong)
		}
		if turn := checkMean(t, tree, job, replies); turn.Code == impl.NotValid {
			not++
		} else {
			valid++
		}
	}
	if valid < 500 || not < 500 {
		t.Errorf("%d valid, %d not", valid, not)
	}
}
