package tests

import (
	"fmt"
	"reflect"
	"slices"
	"testing"

	"loop.example/kilnmill/impl"
)

// A second machine: a plain one that works on the lists of the document, and a second list of what is valid.

// sameMachine: the empty list and the nil list are the same.
func sameMachine(a, b impl.Machine) bool {
	lists := slices.EqualFunc(a.Codes, b.Codes, sameCode) && slices.Equal(a.Args, b.Args) && slices.Equal(a.Outs, b.Outs) &&
		slices.EqualFunc(a.Frames, b.Frames, sameFrame) && slices.Equal(a.Files, b.Files) && slices.Equal(a.Said, b.Said)
	return lists && a.Steps == b.Steps && a.Looks == b.Looks && a.Kind == b.Kind && a.Name == b.Name && a.Hold == b.Hold &&
		a.Over == b.Over && a.End == b.End && a.Text == b.Text
}

func sameFrame(a, b impl.Frame) bool {
	return a.Code == b.Code && a.Fn == b.Fn && a.At == b.At && slices.Equal(a.Slots, b.Slots) && slices.Equal(a.Stack, b.Stack)
}

// writtenMachine shows a machine, its codes only by how many they are.
func writtenMachine(m impl.Machine) string {
	count := len(m.Codes)
	m.Codes = nil
	return fmt.Sprintf("%d codes %.3000s", count, fmt.Sprintf("%+v", m))
}

// newMachine is a machine in lists of its own.
func newMachine(m impl.Machine) impl.Machine {
	m.Codes, m.Args, m.Outs = slices.Clone(m.Codes), slices.Clone(m.Args), slices.Clone(m.Outs)
	m.Frames, m.Files, m.Said = slices.Clone(m.Frames), slices.Clone(m.Files), slices.Clone(m.Said)
	for i, c := range m.Codes {
		fns := slices.Clone(c.Fns)
		for k, fn := range fns {
			fns[k].Params, fns[k].Ins = slices.Clone(fn.Params), slices.Clone(fn.Ins)
		}
		m.Codes[i] = impl.Code{Fns: fns}
	}
	for i, f := range m.Frames {
		m.Frames[i].Slots, m.Frames[i].Stack = slices.Clone(f.Slots), slices.Clone(f.Stack)
	}
	return m
}

// knownCode is a code whose shapes were made already; right is false if it is not valid.
type knownCode struct {
	code   impl.Code
	right  bool
	shapes [][]impl.Shape
}

// The codes that were asked for last: a machine's codes stay what they are for many steps.
var knownCodes []knownCode

func knownOf(c impl.Code) knownCode {
	for _, known := range knownCodes {
		if sameCode(known.code, c) {
			return known
		}
	}
	known := knownCode{code: newMachine(impl.Machine{Codes: []impl.Code{c}}).Codes[0], right: modelCheckCode(c) == [3]int{}}
	for f := range c.Fns {
		if known.right {
			shapes, _ := modelShapes(c, f)
			known.shapes = append(known.shapes, shapes)
		}
	}
	knownCodes = append(knownCodes, known)
	if len(knownCodes) > 60 {
		knownCodes = slices.Delete(knownCodes, 0, 30)
	}
	return known
}

// isModelMachine says whether a machine is valid, as the chapter has it.
func isModelMachine(m impl.Machine) bool {
	for i, file := range m.Files {
		if !fileForm.MatchString(file.Name) || len(file.Text) > 3000 || i > 0 && textSign(m.Files[i-1].Name, file.Name) >= 0 {
			return false
		}
	}
	for _, text := range slices.Concat(m.Said, m.Args, []string{m.Text, m.Hold}) {
		if len(text) > 3000 {
			return false
		}
	}
	if len(m.Files) > 20 || len(m.Said) > 50 || m.Steps < 0 || m.Steps > 4000 {
		return false
	}
	if m.Over {
		bare := impl.Machine{Steps: m.Steps, Over: true, End: m.End, Text: m.Text, Files: m.Files, Said: m.Said}
		return m.End >= 0 && m.End <= 5 && (m.End == 0 || len(m.Files) == 0) && sameMachine(m, bare)
	}
	if len(m.Codes) < 1 || len(m.Codes) > 40 || len(m.Args) != len(m.Codes) || !isModelJob(outs(m.Outs...)) || m.Looks < 0 || m.Looks > 100 || m.End != 0 || m.Text != "" {
		return false
	}
	for _, file := range m.Files {
		if !slices.Contains(m.Outs, file.Name) {
			return false
		}
	}
	for _, c := range m.Codes {
		if !knownOf(c).right {
			return false
		}
	}
	return isModelLook(m) && areModelFrames(m)
}

func isModelLook(m impl.Machine) bool {
	form := fileForm
	switch m.Kind {
	case 0:
		return m.Name == "" && m.Hold == ""
	case 1, 2, 4:
	case 3:
		form = listForm
	default:
		return false
	}
	return form.MatchString(m.Name) && (m.Hold == "" || m.Kind == 4) && m.Looks >= 1
}

func areModelFrames(m impl.Machine) bool {
	if len(m.Frames) < 1 || len(m.Frames) > 40 || m.Frames[0].Code != 0 || m.Frames[len(m.Frames)-1].Code != len(m.Codes)-1 {
		return false
	}
	for i, f := range m.Frames {
		up := i == 0
		if i > 0 {
			before := m.Frames[i-1].Code
			up = f.Code == before+1
			if !up && f.Code != before {
				return false
			}
		}
		if f.Code < 0 || f.Code >= len(m.Codes) || f.Fn < 0 || f.Fn >= len(m.Codes[f.Code].Fns) {
			return false
		}
		if up && m.Codes[f.Code].Fns[f.Fn].Name != "main" {
			return false
		}
	}
	for i := range m.Frames {
		if !isModelFrame(m, i) {
			return false
		}
	}
	return true
}

func isModelFrame(m impl.Machine, i int) bool {
	f := m.Frames[i]
	fn, shapes := m.Codes[f.Code].Fns[f.Fn], knownOf(m.Codes[f.Code]).shapes[f.Fn]
	if f.At < 0 || f.At >= len(shapes) || shapes[f.At].State != 1 || len(f.Slots) != fn.Slots {
		return false
	}
	types := shapes[f.At].Stack
	if i < len(m.Frames)-1 || m.Kind != 0 {
		if f.At == 0 || shapes[f.At-1].State != 1 {
			return false
		}
		ins := fn.Ins[f.At-1]
		gives := impl.TypeText
		switch {
		case i == len(m.Frames)-1 && (ins.Op != 8 || ins.A != m.Kind):
			return false
		case i < len(m.Frames)-1 && m.Frames[i+1].Code != f.Code && (ins.Op != 8 || ins.A != 4):
			return false
		case i < len(m.Frames)-1 && m.Frames[i+1].Code == f.Code:
			if ins.Op != 9 || ins.A != m.Frames[i+1].Fn {
				return false
			}
			gives = m.Codes[f.Code].Fns[ins.A].Result
		}
		if gives != 0 {
			types = types[:len(types)-1]
		}
	}
	for k, v := range f.Slots {
		if known := shapes[f.At].Slots[k]; v != (impl.Value{}) && !isModelValid(v) || known != 0 && v.Type != known {
			return false
		}
	}
	isOne := func(v impl.Value, typ int) bool { return isModelValid(v) && v.Type == typ }
	return slices.EqualFunc(f.Stack, types, isOne)
}

// plain is a machine that works.
type plain struct {
	impl.Machine
}

func (p *plain) frame() *impl.Frame { return &p.Frames[len(p.Frames)-1] }

func (p *plain) put(v impl.Value) { p.frame().Stack = append(p.frame().Stack, v) }

func (p *plain) ends(code int, text string) {
	end := impl.Machine{Steps: p.Steps, Over: true, End: code, Text: text, Said: p.Said}
	if code == 0 {
		end.Files = p.Files
	}
	p.Machine = end
}

func (p *plain) breaks(word string) {
	f := p.frame()
	p.ends(2, word+" in "+p.Codes[f.Code].Fns[f.Fn].Name)
}

// gives puts a value if there is no word.
func (p *plain) gives(v impl.Value, word string) {
	if word != "" {
		p.breaks(word)
		return
	}
	p.put(v)
}

// steps makes a step, and does the rest if there was one left.
func (p *plain) steps(rest func()) {
	if p.Steps == 4000 {
		p.ends(3, "")
		return
	}
	p.Steps++
	rest()
}

func (p *plain) calls(code, f int, args []impl.Value) {
	if len(p.Frames) == 40 {
		p.breaks("deep")
		return
	}
	p.steps(func() {
		slots := make([]impl.Value, p.Codes[code].Fns[f].Slots)
		copy(slots, args)
		p.Frames = append(p.Frames, impl.Frame{Code: code, Fn: f, Slots: slots})
	})
}

// step does an instruction.
func (p *plain) step() {
	if p.Over || p.Kind != 0 {
		return
	}
	f := p.frame()
	c := p.Codes[f.Code]
	ins := c.Fns[f.Fn].Ins[f.At]
	rest := len(f.Stack) - modelTakes(c, ins)
	v := slices.Clone(f.Stack[rest:])
	f.Stack = f.Stack[:rest]
	f.At++
	switch ins.Op {
	case impl.InsPush:
		p.put(impl.Value{Type: ins.A, N: ins.N, Text: ins.Text})
	case impl.InsLoad:
		p.put(f.Slots[ins.A])
	case impl.InsStore:
		f.Slots[ins.A] = v[0]
	case impl.InsUn:
		p.gives(impl.Unary(ins.A, v[0]))
	case impl.InsBin:
		p.gives(impl.Binary(ins.A, v[0], v[1]))
	case impl.InsConv:
		p.gives(impl.Convert(v[0], ins.A))
	case impl.InsBuilt:
		p.built(ins.A, v)
	case impl.InsCall:
		p.calls(f.Code, ins.A, v)
	case impl.InsJump:
		f.At = ins.A
	case impl.InsUnless:
		if v[0].N == 0 {
			f.At = ins.A
		}
	case impl.InsReturn:
		p.returns(v)
	case impl.InsFail:
		p.ends(1, v[0].Text)
	case impl.InsWrite:
		p.writes(v[0].Text, v[1].Text)
	case impl.InsSay:
		if len(p.Said) == 50 {
			p.breaks("said")
		} else {
			p.Said = append(p.Said, v[0].Text)
		}
	case impl.InsStep:
		p.steps(func() {})
	}
}

func (p *plain) built(op int, v []impl.Value) {
	switch {
	case op == impl.BuiltArg:
		p.put(vText(p.Args[p.frame().Code]))
	case op > impl.BuiltArg:
		p.gives(impl.Built(op, v))
	case op == 3 && !listForm.MatchString(v[0].Text), op != 3 && !fileForm.MatchString(v[0].Text):
		p.breaks("name")
	case p.Looks == 100:
		p.ends(3, "")
	default:
		p.Looks++
		p.Kind, p.Name = op, v[0].Text
		if op == 4 {
			p.Hold = v[1].Text
		}
	}
}

func (p *plain) writes(name, text string) {
	switch {
	case !fileForm.MatchString(name):
		p.breaks("name")
	case !slices.Contains(p.Outs, name):
		p.breaks("output")
	default:
		p.Files = slices.DeleteFunc(p.Files, func(f impl.File) bool { return f.Name == name })
		p.Files = append(p.Files, impl.File{Name: name, Text: text})
		slices.SortFunc(p.Files, func(a, b impl.File) int { return textSign(a.Name, b.Name) })
	}
}

func (p *plain) returns(v []impl.Value) {
	gone := *p.frame()
	p.Frames = p.Frames[:len(p.Frames)-1]
	if len(p.Frames) > 0 {
		if p.frame().Code < gone.Code {
			p.Codes, p.Args = p.Codes[:gone.Code], p.Args[:gone.Code]
		}
		for _, value := range v {
			p.put(value)
		}
		return
	}
	for _, name := range p.Outs {
		if !slices.ContainsFunc(p.Files, func(f impl.File) bool { return f.Name == name }) {
			p.ends(2, "lacks "+name)
			return
		}
	}
	p.ends(0, v[0].Text)
}

// answers gives a valid reply to a machine that waits.
func (p *plain) answers(y impl.Reply) {
	kind, name, hold := p.Kind, p.Name, p.Hold
	p.Kind, p.Name, p.Hold = 0, "", ""
	switch {
	case kind == 2:
		p.put(vBool(y.Code != 4))
	case kind == 3:
		p.put(vText(y.Text))
	case y.Code != 0:
		p.ends(y.Code, name)
	case kind == 1:
		p.put(vText(y.Text))
	default:
		tree, fault := impl.Parse(y.Text)
		if fault.Code != 0 || impl.Check(tree).Code != 0 {
			p.breaks("tool")
			return
		}
		p.Codes, p.Args = append(p.Codes, modelCompile(tree)), append(p.Args, hold)
		p.calls(len(p.Codes)-1, p.mainOf(len(p.Codes)-1), nil)
	}
}

func (p *plain) mainOf(code int) int {
	return slices.IndexFunc(p.Codes[code].Fns, func(fn impl.Fn) bool { return fn.Name == "main" })
}

func modelStart(c impl.Code, j impl.Job) impl.Machine {
	if modelCheckCode(c) != [3]int{} || !isModelJob(j) {
		return impl.Machine{}
	}
	p := plain{impl.Machine{Codes: []impl.Code{c}, Args: []string{j.Arg}, Outs: j.Outs}}
	p.calls(0, p.mainOf(0), nil)
	return p.Machine
}

func modelGo(m impl.Machine, most int) impl.Machine {
	if !isModelMachine(m) {
		return impl.Machine{}
	}
	p := plain{newMachine(m)}
	for i := 0; i < most && i < 100000; i++ {
		p.step()
	}
	return p.Machine
}

func modelAnswered(m impl.Machine, y impl.Reply) impl.Machine {
	if !isModelMachine(m) || !isModelReply(y) {
		return impl.Machine{}
	}
	p := plain{newMachine(m)}
	if p.Kind != 0 {
		p.answers(y)
	}
	return p.Machine
}

func modelShown(m impl.Machine) impl.Turn {
	switch {
	case !isModelMachine(m):
		return impl.Turn{}
	case m.Over:
		return impl.Turn{Over: true, Code: m.End, Text: m.Text, Steps: m.Steps, Files: m.Files, Said: m.Said}
	}
	return impl.Turn{Kind: []int{0, 1, 2, 3, 1}[m.Kind], Name: m.Name, Steps: m.Steps, Said: m.Said}
}

// checkSame holds a machine that was answered against the second one. It is valid, unless it is nothing (P12).
func checkSame(t *testing.T, what any, from, got, want impl.Machine) impl.Machine {
	t.Helper()
	if !sameMachine(got, want) {
		t.Fatalf("%v of %s:\n%s\nwant\n%s", what, writtenMachine(from), writtenMachine(got), writtenMachine(want))
	}
	isNothing := sameMachine(got, impl.Machine{})
	if isNothing == impl.ValidMachine(got) || isNothing == isModelMachine(got) {
		t.Fatalf("%v of %s: %s is not valid", what, writtenMachine(from), writtenMachine(got))
	}
	if isNothing && !reflect.DeepEqual(got, impl.Machine{}) {
		t.Fatalf("%v: nothing with lists", what)
	}
	return got
}

// checkState asks all but Answer of a machine, valid or not, and gives what Step does.
func checkState(t *testing.T, m impl.Machine) impl.Machine {
	t.Helper()
	valid := impl.ValidMachine(m)
	if want := isModelMachine(m); valid != want {
		t.Fatalf("valid: %v, want %v: %s", valid, want, writtenMachine(m))
	}
	if got, want := impl.Shown(m), modelShown(m); !sameTurn(got, want) {
		t.Fatalf("%s: shows %+v, want %+v", writtenMachine(m), got, want)
	}
	for _, most := range []int{-1, 0, 3} {
		checkSame(t, fmt.Sprint("go ", most), m, impl.Go(m, most), modelGo(m, most))
	}
	next := checkSame(t, "step", m, impl.Step(m), modelGo(m, 1))
	if valid && !m.Over && m.Kind == 0 && sameMachine(next, m) {
		// Progress, but for a jump to its own place.
		f := m.Frames[len(m.Frames)-1]
		if ins := m.Codes[f.Code].Fns[f.Fn].Ins[f.At]; ins != cOp(impl.InsJump, f.At) {
			t.Fatalf("%s: %v changes nothing", writtenMachine(m), ins)
		}
	}
	return next
}

func checkAnswer(t *testing.T, m impl.Machine, y impl.Reply) impl.Machine {
	t.Helper()
	return checkSame(t, fmt.Sprintf("answer %.300q", fmt.Sprint(y)), m, impl.Answer(m, y), modelAnswered(m, y))
}

// checkHeart: a machine with the code of a tree shows, whenever it waits with no reply left and at its end, what the turns tell (P13). It comes there by fewer steps than P14 says.
func checkHeart(t *testing.T, tree impl.Tree, j impl.Job, replies []impl.Reply, turns []impl.Turn) {
	t.Helper()
	m := impl.Start(impl.Compile(tree), j)
	if turns[0].Code == impl.NotValid {
		if runs := impl.Check(tree) == (impl.Fault{}) && isModelJob(j); runs != impl.ValidMachine(m) {
			t.Fatalf("%.3000s\nwith %.500q: %s", impl.Print(tree), j, writtenMachine(m))
		}
		return
	}
	steps := 0
	for k, turn := range turns {
		for !m.Over && m.Kind == 0 && steps < 30*impl.MaxSteps*impl.MaxNodes {
			m = impl.Go(m, 2000)
			steps += 2000
		}
		if got := impl.Shown(m); !sameTurn(got, turn) || !impl.ValidMachine(m) {
			t.Fatalf("%.3000s\nwith %.500q and %d of %.500q:\n%.1000q\nwant\n%.1000q", impl.Print(tree), j, k, fmt.Sprint(replies), fmt.Sprint(got), fmt.Sprint(turn))
		}
		if k < len(turns)-1 {
			m = impl.Answer(m, replies[k])
		}
	}
}

// passed counts what machines came to.
type passed map[string]int

func (p passed) count(m impl.Machine) {
	switch {
	case m.Over:
		p[fmt.Sprint("end ", m.End)]++
	case m.Kind != 0:
		p[fmt.Sprint("look ", m.Kind)]++
	}
	if len(m.Codes) > 1 {
		p[fmt.Sprint("codes ", min(len(m.Codes), 3))]++
	}
	if n := len(m.Frames); n > 1 && m.Frames[n-1].Code == m.Frames[n-2].Code {
		p["calls"]++
	}
}

func (p passed) want(t *testing.T, least int, all ...string) {
	t.Helper()
	for _, what := range all {
		if p[what] < least {
			t.Errorf("%s: %d times (%v)", what, p[what], map[string]int(p))
		}
	}
}

// goingReply is a reply with which most looks go on.
func (r *typed) goingReply() impl.Reply {
	switch r.Intn(4) {
	case 0:
		return impl.Reply{Text: mainOf("return tool(\"t\", arg() + \"1\") + \"2\";")}
	case 1:
		return impl.Reply{Text: "fn f(a text) -> text { if has(a) { return tool(a, a); } return read(a); } " + mainOf("return f(\"b\") + arg();")}
	}
	return r.reply()
}

// goesFrom goes on from a machine, a step or a few at once, and asks all of each state. Each look is answered, first with replies that do not go.
func (p passed) goesFrom(t *testing.T, m impl.Machine, r *typed, states int) impl.Machine {
	t.Helper()
	for range states {
		p.count(m)
		next := checkState(t, m)
		wrong := impl.Reply{Code: r.Intn(8) - 1, Text: runTexts[r.Intn(len(runTexts))]}
		checkAnswer(t, m, wrong)
		if m.Over {
			return m
		}
		if m.Kind != 0 {
			p.count(checkAnswer(t, m, goneReply))
			p.count(checkAnswer(t, m, belowReply))
			p.count(checkAnswer(t, m, impl.Reply{Text: "no program"}))
			m = checkAnswer(t, m, r.goingReply())
			continue
		}
		m = next
		if most := r.Intn(60); most < 30 {
			m = checkSame(t, fmt.Sprint("go ", most), m, impl.Go(m, most), modelGo(m, most))
		}
	}
	return m
}

// P12, for machines of made programs and for those of codes that no program has.
func TestMachineByChance(t *testing.T) {
	r, p := newTyped(91), passed{}
	for range 800 {
		tree := treeOf(r.program(1+r.Intn(3), 0))
		r.runnable(&tree)
		code, job := impl.Compile(tree), r.job()
		p.goesFrom(t, checkSame(t, "start", impl.Machine{}, impl.Start(code, job), modelStart(code, job)), r, 40)
	}
	p.want(t, 30, "end 0", "end 1", "end 2", "end 4", "end 5", "look 1", "look 2", "look 3", "look 4", "codes 2", "codes 3", "calls")
}

// named makes names of files of the texts of a code that are none.
func named(c impl.Code) {
	for _, fn := range c.Fns {
		for at, ins := range fn.Ins {
			if ins.A == impl.TypeText && ins.Op == impl.InsPush && !fileForm.MatchString(ins.Text) {
				fn.Ins[at].Text = []string{"0", "7", "a", "ab", "b"}[at%5]
			}
		}
	}
}

func TestMachineOfCodesByChance(t *testing.T) {
	r, p := newTyped(92), passed{}
	for seed := range int64(2500) {
		code := newCoder(seed, int(seed%2)*3).program(5 + int(seed%30))
		if seed%4 > 0 {
			named(code)
		}
		job := impl.Job{Arg: "arg", Outs: []string{"-1", "0", "7", "a", "ab"}}
		if seed%3 == 0 {
			job.Outs = nil
		}
		m := checkSame(t, "start", impl.Machine{}, impl.Start(code, job), modelStart(code, job))
		if impl.ValidMachine(m) {
			p.goesFrom(t, m, r, 20)
		}
	}
	p.want(t, 30, "end 0", "end 1", "end 2", "end 4", "end 5", "look 1", "look 2", "look 3", "look 4", "codes 2", "calls")
}

// oneOf gives a list with something done to one of its items.
func oneOf[T any](r *typed, list []T, bend func(item *T)) {
	if len(list) > 0 {
		bend(&list[r.Intn(len(list))])
	}
}

// oddList takes an item away, or puts one there.
func oddList[T any](r *typed, list []T, item T) []T {
	at := r.Intn(len(list) + 1)
	if at < len(list) && r.Intn(2) == 0 {
		return slices.Delete(list, at, at+1)
	}
	return slices.Insert(list, at, item)
}

func (r *typed) oddNumber(n int) int {
	return []int{n - 1, n + 1, n + 1, 0, r.Intn(6), -1, n + 1<<32, -n, 100, 101, 4000, 4001}[r.Intn(12)]
}

func (r *typed) oddText() string {
	return append(runTexts, xs(60), xs(61), xs(3000), xs(3001))[r.Intn(len(runTexts)+4)]
}

func (r *typed) oddValue() impl.Value {
	switch r.Intn(4) {
	case 0:
		return wrongValues()[r.Intn(30)]
	case 1:
		return impl.Value{}
	}
	values := edgeValues(1 + r.Intn(10))
	return values[r.Intn(len(values))]
}

// bendFrame changes one thing of a frame.
func (r *typed) bendFrame(f *impl.Frame) {
	switch r.Intn(9) {
	case 0:
		f.Code = r.oddNumber(f.Code)
	case 1:
		f.Fn = r.oddNumber(f.Fn)
	case 2, 3:
		f.At = r.oddNumber(f.At)
	case 4, 5:
		oneOf(r, f.Slots, func(v *impl.Value) { *v = r.oddValue() })
	case 6:
		f.Slots = oddList(r, f.Slots, r.oddValue())
	case 7:
		oneOf(r, f.Stack, func(v *impl.Value) { *v = r.oddValue() })
	case 8:
		f.Stack = oddList(r, f.Stack, r.oddValue())
	}
}

// bendMachine changes one thing of a machine, which may stay valid.
func (r *typed) bendMachine(m impl.Machine) impl.Machine {
	m = newMachine(m)
	switch r.Intn(30) {
	case 0:
		m.Steps = r.oddNumber(m.Steps)
	case 1:
		m.Looks = r.oddNumber(m.Looks)
	case 2:
		m.Kind = r.oddNumber(m.Kind)
	case 3:
		m.Name = r.oddText()
	case 4:
		m.Hold = r.oddText()
	case 5:
		m.Over = !m.Over
	case 6:
		m.End = r.oddNumber(m.End)
	case 7:
		m.Text = r.oddText()
	case 8:
		m.Files = oddList(r, m.Files, impl.File{Name: r.oddText(), Text: r.oddText()})
	case 9:
		oneOf(r, m.Files, func(f *impl.File) { f.Name = r.oddText() })
	case 10:
		m.Said = oddList(r, m.Said, r.oddText())
	case 11:
		m.Outs = oddList(r, m.Outs, r.oddText())
	case 12:
		m.Args = oddList(r, m.Args, r.oddText())
	case 13:
		oneOf(r, m.Args, func(text *string) { *text = r.oddText() })
	case 14:
		m.Codes = oddList(r, m.Codes, cCode(cReturning()))
	case 15:
		oneOf(r, m.Codes, func(c *impl.Code) { *c = cCode(cReturning()) })
	case 16:
		oneOf(r, m.Codes, func(c *impl.Code) { *c = (&coder{Rand: r.Rand}).bend(*c) })
	case 17:
		m.Frames = oddList(r, m.Frames, impl.Frame{Slots: make([]impl.Value, r.Intn(3))})
	case 18:
		oneOf(r, m.Frames, func(f *impl.Frame) { m.Frames = append(m.Frames, *f) })
	case 19:
		slices.Reverse(m.Frames)
	default:
		oneOf(r, m.Frames, r.bendFrame)
	}
	return m
}

// Machines that are nearly valid: each is asked all, and where it is valid it goes on to valid ones.
func TestMachineBent(t *testing.T) {
	r := newTyped(93)
	valid, not := 0, 0
	ask := func(m impl.Machine) {
		bent := r.bendMachine(m)
		if impl.ValidMachine(bent) {
			valid++
			passed{}.goesFrom(t, bent, r, 3)
		} else {
			not++
			checkState(t, bent)
			checkAnswer(t, bent, impl.Reply{})
		}
	}
	for seed := range int64(700) {
		tree := treeOf(r.program(1+r.Intn(3), 0))
		r.runnable(&tree)
		m := impl.Start(impl.Compile(tree), r.job())
		if seed%3 == 0 {
			m = impl.Start(newCoder(seed, 0).program(20), r.job())
		}
		for range 6 {
			m = passed{}.goesFrom(t, m, r, 4)
			if !impl.ValidMachine(m) {
				break
			}
			ask(m)
			ask(m)
			ask(m)
		}
	}
	t.Log(valid, not)
	if valid < 1000 || not < 3000 {
		t.Errorf("%d valid, %d not", valid, not)
	}
}

// wantEnd answers each look until the machine is over, and says how often it was answered; that is at most MaxLooks times, within the instructions that P14 says.
func wantEnd(t *testing.T, m impl.Machine, reply func() impl.Reply) int {
	t.Helper()
	answers := 0
	for steps := 0; !m.Over; steps += impl.MaxGo {
		if answers > impl.MaxLooks || steps > 30*impl.MaxSteps*impl.MaxNodes {
			t.Fatalf("does not end: %d answers, %d steps: %s", answers, steps, writtenMachine(m))
		}
		if m = impl.Go(m, impl.MaxGo); m.Kind != 0 {
			answers++
			m = impl.Answer(m, reply())
		}
		if !impl.ValidMachine(m) {
			t.Fatalf("not valid: %s", writtenMachine(m))
		}
	}
	return answers
}

// P14: programs that would go on for ever, and one that does much at each step.
func TestMachineEnds(t *testing.T) {
	again := mainOf("while true { if has(\"a\") { } } return \"\";")
	for _, c := range []struct {
		src     string
		replies []impl.Reply
		answers int
	}{
		{mainOf("while true { } return \"\";"), nil, 0},
		{mainOf("while true { let a = read(\"a\"); } return \"\";"), given("x"), 100},
		{mainOf("while true { let a = list(\"a\"); } return \"\";"), []impl.Reply{goneReply}, 100},
		{again, []impl.Reply{belowReply}, 100},
		{mainOf("while true { let a = tool(\"a\", \"\"); } return \"\";"), given(mainOf("return \"\";")), 100},
		{mainOf("return tool(\"a\", \"\");"), given(mainOf("return tool(\"a\", \"\");")), 40},
		{mainOf("return tool(\"a\", \"\");"), given(again), 100},
		{mainOf("if has(\"a\") { return main() + main(); } return \"\";"), given(""), 40},
		{"fn f() -> text { if has(\"a\") { return \"\"; } return f() + f(); } " + mainOf("while true { f(); } return \"\";"), given(""), 100},
		{mainOf("return read(\"a\");"), given("x"), 1},
	} {
		y := 0
		answers := wantEnd(t, begunOf(t, c.src, impl.Job{}), func() impl.Reply { y++; return c.replies[(y-1)%len(c.replies)] })
		if answers != c.answers {
			t.Errorf("%q: %d answers, want %d", c.src, answers, c.answers)
		}
	}
	sum := xNum(1)
	for range 10 {
		sum = xBin(impl.OpAdd, sum, sum)
	}
	loop := xWhile(xBin(impl.OpSame, sum, xNum(1024)), xBlock())
	tree := treeOf(xProgram(xFn("main", impl.TypeText, xBlock(loop, xReturn(xText(""))))))
	m := impl.Start(impl.Compile(tree), impl.Job{})
	wantEnd(t, m, nil)
	m = impl.Go(m, impl.MaxGo)
	if m.Over || m.Steps < 30 || m.Steps > 60 {
		t.Errorf("%d steps", m.Steps)
	}
	r := newTyped(94)
	most := 0
	for range 1500 {
		tree := treeOf(r.program(1+r.Intn(3), 0))
		r.runnable(&tree)
		most = max(most, wantEnd(t, impl.Start(impl.Compile(tree), r.job()), r.goingReply))
	}
	t.Log("answers:", most)
	if most < 20 {
		t.Errorf("%d answers at most", most)
	}
}
