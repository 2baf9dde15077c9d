package tests

import (
	"fmt"
	"math"
	"slices"
	"strings"
	"testing"

	"loop.example/kilnmill/impl"
)

// startOf begins a run of a code; it is held against the second machine.
func startOf(t *testing.T, c impl.Code, j impl.Job) impl.Machine {
	t.Helper()
	return checkSame(t, "start", impl.Machine{}, impl.Start(c, j), modelStart(c, j))
}

// begunOf begins a run of a program.
func begunOf(t *testing.T, src string, j impl.Job) impl.Machine {
	t.Helper()
	m := startOf(t, impl.Compile(parsed(t, src)), j)
	if !impl.ValidMachine(m) {
		t.Fatalf("%s does not begin", src)
	}
	return m
}

// goneOn goes on until a machine waits or is over.
func goneOn(t *testing.T, m impl.Machine) impl.Machine {
	t.Helper()
	for range 1000 {
		if m.Over || m.Kind != 0 {
			break
		}
		m = impl.Go(m, 1000)
	}
	return m
}

// answeredBy goes on with these replies, until the machine waits for the next or is over.
func answeredBy(t *testing.T, m impl.Machine, replies ...impl.Reply) impl.Machine {
	t.Helper()
	m = goneOn(t, m)
	for _, y := range replies {
		if m.Over {
			t.Fatal("over too early")
		}
		m = goneOn(t, checkAnswer(t, m, y))
	}
	return m
}

func wantMachine(t *testing.T, what any, got, want impl.Machine) {
	t.Helper()
	if !sameMachine(got, want) {
		t.Errorf("%v:\n%s\nwant\n%s", what, writtenMachine(got), writtenMachine(want))
	}
}

// overBy is a machine that is over.
func overBy(code int, text string, steps int) impl.Machine {
	return impl.Machine{Over: true, End: code, Text: text, Steps: steps}
}

func TestStart(t *testing.T) {
	f := cFn("f", []int{impl.TypeU8}, 0, 3, cOp(impl.InsReturn, 0))
	g := cFn("g", nil, impl.TypeText, 200, cPush(vText("g")), cOp(impl.InsReturn, 1))
	main := cMain(2, cPush(vText("m")), cOp(impl.InsReturn, 1))
	job := impl.Job{Arg: "arg", Outs: []string{"a", "b"}}
	for i, fns := range [][]impl.Fn{{main}, {main, f, g}, {f, main, g}, {f, g, main}, {cFn("mains", nil, impl.TypeText, 1, g.Ins...), main}} {
		c := cCode(fns...)
		number := slices.IndexFunc(fns, func(fn impl.Fn) bool { return fn.Name == "main" })
		want := impl.Machine{Codes: []impl.Code{c}, Args: []string{"arg"}, Outs: []string{"a", "b"}, Steps: 1, Frames: []impl.Frame{{Fn: number, Slots: make([]impl.Value, 2)}}}
		wantMachine(t, i, startOf(t, c, job), want)
		want.Args, want.Outs = []string{""}, nil
		wantMachine(t, i, startOf(t, c, impl.Job{}), want)
	}
	for _, slots := range []int{0, 1, 199, 200} {
		m := startOf(t, cCode(cMain(slots, main.Ins...)), job)
		if len(m.Frames[0].Slots) != slots || len(m.Frames[0].Stack) != 0 {
			t.Errorf("%d slots: %v", slots, m.Frames)
		}
	}
}

func TestStartNotValid(t *testing.T) {
	right := cCode(cReturning())
	var names []string
	for i := range 21 {
		names = append(names, fmt.Sprintf("o%02d", i))
	}
	for _, c := range []struct {
		job   impl.Job
		right bool
	}{
		{impl.Job{Arg: xs(3000), Outs: names[:20]}, true},
		{impl.Job{Arg: xs(3001)}, false},
		{outs(names...), false},
		{outs("b", "a"), false},
		{outs("a", "a"), false},
		{outs(""), false},
		{outs("a b"), false},
		{outs(xs(60)), true},
		{outs(xs(61)), false},
	} {
		if m := startOf(t, right, c.job); impl.ValidMachine(m) != c.right {
			t.Errorf("%.100q: %s", c.job, writtenMachine(m))
		}
	}
	back := cOp(impl.InsReturn, 1)
	for i, c := range []impl.Code{
		{},
		cCode(cFn("f", nil, 0, 0, cOp(impl.InsReturn, 0))),
		cCode(cFn("main", nil, 0, 0, cOp(impl.InsReturn, 0))),
		cCode(cFn("main", []int{2}, 2, 1, cOp(impl.InsLoad, 0), back)),
		cCode(cMain(0, back)),
		cCode(cMain(0)),
		cCode(cMain(0, cPush(vText("x")))),
		cCode(cMain(0, cPush(vText(xs(3001))), back)),
		cCode(cReturning(), cReturning()),
		cBeside(cFn("f", nil, 0, 0, cOp(impl.InsDrop, 0), cOp(impl.InsReturn, 0))),
		cBeside(cFn("f", nil, 0, 201, cOp(impl.InsReturn, 0))),
		impl.Compile(parsed(t, mainOf("return 1;"))),
	} {
		wantMachine(t, i, startOf(t, c, impl.Job{}), impl.Machine{})
		wantMachine(t, i, startOf(t, c, outs("b", "a")), impl.Machine{})
	}
}

// inWork is a machine at an instruction of f, which main has called, with what lies there.
func inWork(t *testing.T, do impl.Ins, lie ...impl.Value) impl.Machine {
	t.Helper()
	var ins []impl.Ins
	for _, v := range lie {
		ins = append(ins, cPush(v))
	}
	ins = append(ins, do, cPush(vText("behind")), cOp(impl.InsReturn, 1))
	c := cCode(cMain(0, cOp(impl.InsCall, 1), cOp(impl.InsReturn, 1)), cFn("f", nil, impl.TypeText, 2, ins...))
	m := impl.Go(startOf(t, c, impl.Job{Arg: "the arg", Outs: []string{"a", "b", "c"}}), 1+len(lie))
	if !impl.ValidMachine(m) || m.Over || m.Frames[1].At != len(lie) {
		t.Fatalf("%v: not there", writtenIns(do))
	}
	return m
}

// wantOnly: a step changes nothing but the last frame, which has this on its stack, and is at this place.
func wantOnly(t *testing.T, m impl.Machine, at int, stack ...impl.Value) {
	t.Helper()
	want := newMachine(m)
	f := &want.Frames[len(want.Frames)-1]
	ins := want.Codes[f.Code].Fns[f.Fn].Ins[f.At]
	f.At, f.Stack = at, stack
	wantMachine(t, writtenIns(ins), checkState(t, m), want)
}

// wantOver: a step ends the run.
func wantOver(t *testing.T, m impl.Machine, code int, text string) {
	t.Helper()
	want := overBy(code, text, m.Steps)
	want.Said = m.Said
	if code == impl.Done {
		want.Files = m.Files
	}
	f := m.Frames[len(m.Frames)-1]
	wantMachine(t, writtenIns(m.Codes[f.Code].Fns[f.Fn].Ins[f.At]), checkState(t, m), want)
}

// Instructions that put values, and those of which a word comes.
func TestStepValues(t *testing.T) {
	n, x := vI64(7), vText("ab")
	for _, c := range []struct {
		do   impl.Ins
		lie  []impl.Value
		puts impl.Value
		word string
	}{
		{do: cPush(vText("")), puts: vText("")},
		{do: cPush(vText(xs(3000))), puts: vText(xs(3000))},
		{do: cPush(vBool(true)), puts: vBool(true)},
		{do: cPush(vInt(impl.TypeU64, -1)), puts: vInt(impl.TypeU64, -1)},
		{do: cPush(vInt(impl.TypeI8, -128)), puts: vInt(impl.TypeI8, -128)},
		{do: cOp(impl.InsUn, impl.OpNeg), lie: []impl.Value{n}, puts: vI64(-7)},
		{do: cOp(impl.InsUn, impl.OpNeg), lie: []impl.Value{vInt(impl.TypeI8, -128)}, puts: vInt(impl.TypeI8, -128)},
		{do: cOp(impl.InsUn, impl.OpNot), lie: []impl.Value{vBool(true)}, puts: vBool(false)},
		{do: cOp(impl.InsUn, impl.OpInv), lie: []impl.Value{vInt(impl.TypeU8, 1)}, puts: vInt(impl.TypeU8, 254)},
		{do: cOp(impl.InsBin, impl.OpSub), lie: []impl.Value{n, vI64(2)}, puts: vI64(5)},
		{do: cOp(impl.InsBin, impl.OpLess), lie: []impl.Value{n, vI64(8)}, puts: vBool(true)},
		{do: cOp(impl.InsBin, impl.OpLess), lie: []impl.Value{vI64(8), n}, puts: vBool(false)},
		{do: cOp(impl.InsBin, impl.OpSame), lie: []impl.Value{vBool(true), vBool(false)}, puts: vBool(false)},
		{do: cOp(impl.InsBin, impl.OpAdd), lie: []impl.Value{x, vText("c")}, puts: vText("abc")},
		{do: cOp(impl.InsBin, impl.OpAdd), lie: []impl.Value{vText(xs(1500)), vText(xs(1500))}, puts: vText(xs(3000))},
		{do: cOp(impl.InsBin, impl.OpAdd), lie: []impl.Value{vText(xs(1500)), vText(xs(1501))}, word: "long"},
		{do: cOp(impl.InsBin, impl.OpAdd), lie: []impl.Value{vInt(impl.TypeU8, 200), vInt(impl.TypeU8, 100)}, puts: vInt(impl.TypeU8, 44)},
		{do: cOp(impl.InsBin, impl.OpDiv), lie: []impl.Value{n, vI64(2)}, puts: vI64(3)},
		{do: cOp(impl.InsBin, impl.OpDiv), lie: []impl.Value{n, vI64(0)}, word: "divide"},
		{do: cOp(impl.InsBin, impl.OpRem), lie: []impl.Value{vInt(impl.TypeU8, 7), vInt(impl.TypeU8, 0)}, word: "divide"},
		{do: cOp(impl.InsConv, impl.TypeI8), lie: []impl.Value{vInt(impl.TypeU8, 255)}, puts: vInt(impl.TypeI8, -1)},
		{do: cOp(impl.InsConv, impl.TypeU64), lie: []impl.Value{vI64(-1)}, puts: vInt(impl.TypeU64, -1)},
		{do: cOp(impl.InsBuilt, impl.BuiltArg), puts: vText("the arg")},
		{do: cOp(impl.InsBuilt, impl.BuiltLen), lie: []impl.Value{x}, puts: vI64(2)},
		{do: cOp(impl.InsBuilt, impl.BuiltAt), lie: []impl.Value{x, vI64(1)}, puts: vInt(impl.TypeU8, 'b')},
		{do: cOp(impl.InsBuilt, impl.BuiltAt), lie: []impl.Value{x, vI64(2)}, word: "range"},
		{do: cOp(impl.InsBuilt, impl.BuiltAt), lie: []impl.Value{x, vI64(-1)}, word: "range"},
		{do: cOp(impl.InsBuilt, impl.BuiltCut), lie: []impl.Value{x, vI64(1), vI64(2)}, puts: vText("b")},
		{do: cOp(impl.InsBuilt, impl.BuiltCut), lie: []impl.Value{x, vI64(2), vI64(1)}, word: "range"},
		{do: cOp(impl.InsBuilt, impl.BuiltFind), lie: []impl.Value{x, vText("b")}, puts: vI64(1)},
		{do: cOp(impl.InsBuilt, impl.BuiltFind), lie: []impl.Value{vText("b"), x}, puts: vI64(-1)},
		{do: cOp(impl.InsBuilt, impl.BuiltChr), lie: []impl.Value{vInt(impl.TypeU8, 255)}, puts: vText("\xff")},
		{do: cOp(impl.InsBuilt, impl.BuiltDec), lie: []impl.Value{vInt(impl.TypeU64, -1)}, puts: vText("18446744073709551615")},
		{do: cOp(impl.InsBuilt, impl.BuiltNum), lie: []impl.Value{vText("-12")}, puts: vI64(-12)},
		{do: cOp(impl.InsBuilt, impl.BuiltNum), lie: []impl.Value{vText("012")}, word: "number"},
		{do: cOp(impl.InsBuilt, impl.BuiltNum), lie: []impl.Value{vText("")}, word: "number"},
	} {
		// What lies below is left as it is.
		below := []impl.Value{vText("below"), vBool(true)}
		m := inWork(t, c.do, append(below, c.lie...)...)
		if c.word != "" {
			wantOver(t, m, impl.Broken, c.word+" in f")
			continue
		}
		wantOnly(t, m, len(below)+len(c.lie)+1, append(below, c.puts)...)
	}
}

// Slots, and what is dropped.
func TestStepSlots(t *testing.T) {
	a, b := vI64(1), vText("b")
	c := cCode(cMain(3,
		cPush(a), cOp(impl.InsStore, 1), cPush(b), cOp(impl.InsStore, 2), cOp(impl.InsLoad, 1), cOp(impl.InsLoad, 2),
		cPush(b), cOp(impl.InsStore, 1), cOp(impl.InsDrop, 0), cOp(impl.InsDrop, 0), cOp(impl.InsLoad, 1), cOp(impl.InsReturn, 1)))
	m := startOf(t, c, impl.Job{})
	none := impl.Value{}
	for at, want := range []struct{ slots, stack []impl.Value }{
		{[]impl.Value{none, none, none}, nil},
		{[]impl.Value{none, none, none}, []impl.Value{a}},
		{[]impl.Value{none, a, none}, nil},
		{[]impl.Value{none, a, none}, []impl.Value{b}},
		{[]impl.Value{none, a, b}, nil},
		{[]impl.Value{none, a, b}, []impl.Value{a}},
		{[]impl.Value{none, a, b}, []impl.Value{a, b}},
		{[]impl.Value{none, a, b}, []impl.Value{a, b, b}},
		{[]impl.Value{none, b, b}, []impl.Value{a, b}},
		{[]impl.Value{none, b, b}, []impl.Value{a}},
		{[]impl.Value{none, b, b}, nil},
		{[]impl.Value{none, b, b}, []impl.Value{b}},
	} {
		wanted := impl.Machine{Codes: []impl.Code{c}, Args: []string{""}, Steps: 1, Frames: []impl.Frame{{At: at, Slots: want.slots, Stack: want.stack}}}
		wantMachine(t, at, m, wanted)
		m = checkState(t, m)
	}
	wantMachine(t, "the end", m, overBy(impl.Done, "b", 1))
}

func TestStepWays(t *testing.T) {
	x := cPush(vText("x"))
	c := cCode(cMain(0, cOp(impl.InsJump, 3), x, cOp(impl.InsReturn, 1), cPush(vBool(false)), cOp(impl.InsUnless, 6), cOp(impl.InsJump, 1), cPush(vBool(true)), cOp(impl.InsUnless, 0), cOp(impl.InsJump, 8)))
	m := startOf(t, c, impl.Job{})
	for i, at := range []int{0, 3, 4, 6, 7, 8, 8, 8} {
		wantMachine(t, i, m, impl.Machine{Codes: []impl.Code{c}, Args: []string{""}, Steps: 1, Frames: []impl.Frame{{At: at, Stack: m.Frames[0].Stack}}})
		m = checkState(t, m)
	}
	// The other way of each InsUnless.
	for _, c := range []struct {
		is bool
		at int
	}{{false, 5}, {true, 3}} {
		code := cCode(cMain(0, x, cPush(vBool(c.is)), cOp(impl.InsUnless, 5), cOp(impl.InsStep, 0), cOp(impl.InsStep, 0), cOp(impl.InsReturn, 1)))
		wantOnly(t, impl.Go(startOf(t, code, impl.Job{}), 2), c.at, vText("x"))
	}
}

// steppedTo is a machine with this many steps behind it.
func steppedTo(m impl.Machine, steps int) impl.Machine {
	m.Steps = steps
	return m
}

func TestStepSteps(t *testing.T) {
	m := inWork(t, cOp(impl.InsStep, 0), vText("below"))
	for _, steps := range []int{0, 1, 3998, 3999} {
		from := steppedTo(m, steps)
		want := newMachine(from)
		want.Steps++
		want.Frames[1].At++
		wantMachine(t, steps, checkState(t, from), want)
	}
	wantOver(t, steppedTo(m, 4000), impl.Spent, "")
}

// callsTo is a machine in which f calls itself until as many calls are under way, main among them; it is at the next call.
func callsTo(t *testing.T, calls int) impl.Machine {
	t.Helper()
	load := func(slot int) impl.Ins { return cOp(impl.InsLoad, slot) }
	f := cFn("f", []int{impl.TypeI64, impl.TypeText}, impl.TypeBool, 4, cPush(vBool(true)), load(0), load(1), cOp(impl.InsCall, 0), cOp(impl.InsReturn, 1))
	main := cMain(0, cPush(vI64(5)), cPush(vText("t")), cOp(impl.InsCall, 0), cPush(vText("r")), cOp(impl.InsReturn, 1))
	m := impl.Go(startOf(t, cCode(f, main), impl.Job{}), 2)
	for len(m.Frames) < calls {
		m = impl.Go(m, 4)
	}
	return m
}

func TestStepCall(t *testing.T) {
	for calls := 1; calls <= 39; calls += 19 {
		m := callsTo(t, calls)
		want := newMachine(m)
		last := &want.Frames[calls-1]
		last.At, last.Stack = last.At+1, last.Stack[:len(last.Stack)-2]
		want.Steps++
		want.Frames = append(want.Frames, impl.Frame{Slots: []impl.Value{vI64(5), vText("t"), {}, {}}})
		wantMachine(t, calls, checkState(t, m), want)
		// The last step that there is, and one more.
		want.Steps = 4000
		wantMachine(t, calls, checkState(t, steppedTo(m, 3999)), want)
		wantOver(t, steppedTo(m, 4000), impl.Spent, "")
	}
	// With as many calls as there may be deep comes, and it comes ahead of the step.
	m := callsTo(t, 40)
	if len(m.Frames) != 40 || !impl.ValidMachine(m) {
		t.Fatalf("%d frames", len(m.Frames))
	}
	wantOver(t, m, impl.Broken, "deep in f")
	wantOver(t, steppedTo(m, 4000), impl.Broken, "deep in f")
	// Eight parameters go to the first slots in their order.
	types := []int{1, 2, 3, 4, 5, 6, 7, 8}
	var ins []impl.Ins
	var args []impl.Value
	for _, typ := range types {
		ins = append(ins, cOf(typ))
		args = append(args, impl.Value{Type: ins[typ-1].A, N: ins[typ-1].N, Text: ins[typ-1].Text})
	}
	main := cMain(0, append(ins, cOp(impl.InsCall, 1), cPush(vText("r")), cOp(impl.InsReturn, 1))...)
	m = impl.Go(startOf(t, cCode(main, cFn("g", types, 0, 9, cOp(impl.InsReturn, 0))), impl.Job{}), 8)
	m = checkState(t, m)
	if len(m.Frames) != 2 || !slices.Equal(m.Frames[1].Slots, append(args, impl.Value{})) || len(m.Frames[0].Stack) != 0 {
		t.Errorf("%v", m.Frames)
	}
}

// InsReturn to a frame of the same program, with a result and without one.
func TestStepReturn(t *testing.T) {
	x := cPush(vText("x"))
	give := cFn("give", nil, impl.TypeU8, 1, x, cPush(vInt(impl.TypeU8, 9)), cOp(impl.InsReturn, 1))
	none := cFn("none", nil, 0, 1, x, cOp(impl.InsReturn, 0))
	for f, puts := range map[int][]impl.Value{1: {vText("x"), vInt(impl.TypeU8, 9)}, 2: {vText("x")}} {
		c := cCode(cMain(0, x, cOp(impl.InsCall, f), x, cOp(impl.InsReturn, 1)), give, none)
		m := impl.Go(startOf(t, c, impl.Job{}), 5-f)
		if len(m.Frames) != 2 {
			t.Fatalf("%v", m.Frames)
		}
		want := impl.Machine{Codes: []impl.Code{c}, Args: []string{""}, Steps: 2, Frames: []impl.Frame{{At: 2, Stack: puts}}}
		wantMachine(t, f, checkState(t, m), want)
	}
	// main is a function as others are: only the first one's return is the end.
	src := mainOf("if has(\"a\") { return \"in\"; } return main() + \"!\";")
	m := answeredBy(t, begunOf(t, src, impl.Job{}), goneReply, impl.Reply{})
	wantMachine(t, "main", m, overBy(impl.Done, "in!", 6))
}

// The end of the first main: what it returns, if all was written.
func TestStepLastReturn(t *testing.T) {
	for _, c := range []struct {
		outs, written []string
		lacks         string
	}{
		{nil, nil, ""},
		{[]string{"a"}, []string{"a"}, ""},
		{[]string{"a", "b"}, []string{"a", "b"}, ""},
		{[]string{"a"}, nil, "a"},
		{[]string{"a", "b"}, []string{"a"}, "b"},
		{[]string{"a", "b"}, []string{"b"}, "a"},
		{[]string{"a", "b", "c"}, []string{"a", "c"}, "b"},
		{[]string{"a", "b", "c"}, []string{"c"}, "a"},
	} {
		m := impl.Go(startOf(t, cCode(cReturning()), outs(c.outs...)), 1)
		m.Said = []string{"s", ""}
		for _, name := range c.written {
			m.Files = append(m.Files, impl.File{Name: name, Text: "in " + name})
		}
		if c.lacks == "" {
			wantOver(t, m, impl.Done, "x")
		} else {
			wantOver(t, m, impl.Broken, "lacks "+c.lacks)
		}
	}
	var names []string
	for i := range impl.MaxOuts {
		names = append(names, fmt.Sprintf("o%02d", i))
	}
	m := impl.Go(startOf(t, cCode(cReturning()), outs(names...)), 1)
	for _, name := range names[:19] {
		m.Files = append(m.Files, impl.File{Name: name, Text: xs(3000)})
	}
	wantOver(t, m, impl.Broken, "lacks o19")
	m.Files = append(m.Files, impl.File{Name: "o19"})
	wantOver(t, m, impl.Done, "x")
}

func TestStepFail(t *testing.T) {
	for _, text := range []string{"", "why", xs(3000)} {
		m := inWork(t, cOp(impl.InsFail, 0), vText("below"), vText(text))
		m.Files, m.Said = []impl.File{{Name: "a", Text: "1"}}, []string{"s"}
		wantOver(t, m, impl.Failed, text)
	}
}

func TestStepWrite(t *testing.T) {
	file := func(name, text string) impl.File { return impl.File{Name: name, Text: text} }
	for _, c := range []struct {
		name   string
		before []impl.File
		after  []impl.File
		word   string
	}{
		{"b", nil, []impl.File{file("b", "new")}, ""},
		{"a", []impl.File{file("b", "1")}, []impl.File{file("a", "new"), file("b", "1")}, ""},
		{"c", []impl.File{file("b", "1")}, []impl.File{file("b", "1"), file("c", "new")}, ""},
		{"b", []impl.File{file("a", "1"), file("c", "2")}, []impl.File{file("a", "1"), file("b", "new"), file("c", "2")}, ""},
		{"b", []impl.File{file("b", "1")}, []impl.File{file("b", "new")}, ""},
		{"a", []impl.File{file("a", "1"), file("b", "2")}, []impl.File{file("a", "new"), file("b", "2")}, ""},
		{"c", []impl.File{file("a", "1"), file("c", "2")}, []impl.File{file("a", "1"), file("c", "new")}, ""},
		{"d", []impl.File{file("a", "1")}, nil, "output"},
		{"A", nil, nil, "output"},
		{"ab", nil, nil, "output"},
		{xs(60), nil, nil, "output"},
		{"", nil, nil, "name"},
		{"a b", nil, nil, "name"},
		{"\x7f", nil, nil, "name"},
		{"\x80", nil, nil, "name"},
		{xs(61), nil, nil, "name"},
	} {
		m := inWork(t, cOp(impl.InsWrite, 0), vText("below"), vText(c.name), vText("new"))
		m.Files = c.before
		if c.word != "" {
			wantOver(t, m, impl.Broken, c.word+" in f")
			continue
		}
		want := newMachine(m)
		want.Frames[1].At, want.Frames[1].Stack, want.Files = 4, []impl.Value{vText("below")}, c.after
		wantMachine(t, c.name, checkState(t, m), want)
	}
}

func TestStepSay(t *testing.T) {
	for _, said := range []int{0, 1, 49, 50} {
		m := inWork(t, cOp(impl.InsSay, 0), vText("below"), vText(xs(3000)))
		for i := range said {
			m.Said = append(m.Said, fmt.Sprint(i))
		}
		if said == 50 {
			wantOver(t, m, impl.Broken, "said in f")
			continue
		}
		want := newMachine(m)
		want.Frames[1].At, want.Frames[1].Stack, want.Said = 3, []impl.Value{vText("below")}, append(want.Said, xs(3000))
		wantMachine(t, said, checkState(t, m), want)
	}
}

// The four looks: the name, then the look that is one too many.
func TestStepLooks(t *testing.T) {
	for _, c := range []struct {
		name  string
		right bool
	}{
		{"a", true}, {"!~", true}, {"no such file", false}, {"", false}, {" ", false}, {"\x20a", false}, {"a\x7f", false}, {"a\x80", false}, {"\n", false}, {"\x00", false},
		{xs(60), true}, {xs(61), false}, {xs(3000), false}, {xs(59) + " ", false},
	} {
		for kind := impl.LookRead; kind <= impl.LookTool; kind++ {
			lie, hold := []impl.Value{vText("below"), vText(c.name)}, ""
			if kind == impl.LookTool {
				lie, hold = append(lie, vText("hold \x00")), "hold \x00"
			}
			// A look is no step.
			m := steppedTo(inWork(t, cOp(impl.InsBuilt, kind), lie...), 4000)
			right := c.right || c.name == "" && kind == impl.LookList
			for _, looks := range []int{0, 1, 99, 100} {
				m.Looks = looks
				switch {
				case !right:
					wantOver(t, m, impl.Broken, "name in f")
				case looks == 100:
					wantOver(t, m, impl.Spent, "")
				default:
					want := newMachine(m)
					want.Frames[1].At, want.Frames[1].Stack = len(lie)+1, []impl.Value{vText("below")}
					want.Looks, want.Kind, want.Name, want.Hold = looks+1, kind, c.name, hold
					wantMachine(t, kind, checkState(t, m), want)
				}
			}
		}
	}
}

// A machine that waits or is over stays as it is; one that is not valid is nothing.
func TestStepStays(t *testing.T) {
	for kind := impl.LookRead; kind <= impl.LookTool; kind++ {
		lie := []impl.Value{vText("n"), vText("h")}[:1+kind/4]
		m := impl.Step(inWork(t, cOp(impl.InsBuilt, kind), lie...))
		if m.Kind != kind {
			t.Fatalf("%v", m.Kind)
		}
		for _, got := range []impl.Machine{checkState(t, m), impl.Go(m, 5), impl.Go(m, math.MaxInt)} {
			wantMachine(t, kind, got, m)
		}
	}
	for end := impl.Done; end <= impl.Below; end++ {
		m := overBy(end, "text", 7)
		m.Said = []string{"s"}
		if end == impl.Done {
			m.Files = []impl.File{{Name: "f", Text: "t"}}
		}
		for _, got := range []impl.Machine{checkState(t, m), impl.Go(m, 5), impl.Go(m, math.MaxInt), checkAnswer(t, m, impl.Reply{}), checkAnswer(t, m, goneReply)} {
			wantMachine(t, end, got, m)
		}
		wantMachine(t, end, checkAnswer(t, m, impl.Reply{Code: 1}), impl.Machine{})
	}
	wrong := inWork(t, cOp(impl.InsStep, 0))
	wrong.Frames[1].At = 3
	for _, m := range []impl.Machine{{}, wrong, {Over: true, End: 6}, {Steps: 1}} {
		for _, most := range []int{math.MinInt, -1, 0, 1, 2, math.MaxInt} {
			wantMachine(t, most, impl.Go(m, most), impl.Machine{})
		}
		wantMachine(t, "step", checkState(t, m), impl.Machine{})
		wantMachine(t, "answer", checkAnswer(t, m, impl.Reply{}), impl.Machine{})
		if got := impl.Shown(m); !sameTurn(got, impl.Turn{}) {
			t.Errorf("%+v", got)
		}
	}
}

const toolCaller = "fn f(a text) -> text { return \"<\" + tool(\"t\", a) + \">\"; } fn main() -> text { return f(\"hold\") + arg(); }"

// Each kind of look with each Code of a reply: what is put, or how the run ends.
func TestAnswer(t *testing.T) {
	ok := vText(xs(3000))
	for _, c := range []struct {
		kind  int
		reply impl.Reply
		puts  impl.Value
		end   int
	}{
		{impl.LookRead, impl.Reply{Text: xs(3000)}, ok, 0},
		{impl.LookRead, impl.Reply{}, vText(""), 0},
		{impl.LookRead, impl.Reply{Text: "\x00\xff"}, vText("\x00\xff"), 0},
		{impl.LookRead, goneReply, impl.Value{}, impl.Missing},
		{impl.LookRead, belowReply, impl.Value{}, impl.Below},
		{impl.LookHas, impl.Reply{Text: xs(3000)}, vBool(true), 0},
		{impl.LookHas, impl.Reply{}, vBool(true), 0},
		{impl.LookHas, goneReply, vBool(false), 0},
		{impl.LookHas, belowReply, vBool(true), 0},
		{impl.LookList, impl.Reply{Text: xs(3000)}, ok, 0},
		{impl.LookList, impl.Reply{}, vText(""), 0},
		{impl.LookList, goneReply, vText(""), 0},
		{impl.LookList, belowReply, vText(""), 0},
		{impl.LookTool, goneReply, impl.Value{}, impl.Missing},
		{impl.LookTool, belowReply, impl.Value{}, impl.Below},
	} {
		lie := []impl.Value{vText("below"), vText("name"), vText("hold")}[:2+c.kind/4]
		m := impl.Step(inWork(t, cOp(impl.InsBuilt, c.kind), lie...))
		m.Said, m.Files = []string{"s"}, []impl.File{{Name: "b", Text: "w"}}
		// The last step and the last look play no part.
		m.Steps, m.Looks = 4000, 100
		want := overBy(c.end, "name", 4000)
		want.Said = m.Said
		if c.end == 0 {
			want = newMachine(m)
			want.Kind, want.Name, want.Hold = 0, "", ""
			want.Frames[1].Stack = append(want.Frames[1].Stack, c.puts)
		}
		wantMachine(t, c, checkAnswer(t, m, c.reply), want)
	}
}

// A reply that is not valid, and a machine that does not wait.
func TestAnswerOthers(t *testing.T) {
	run := inWork(t, cOp(impl.InsBuilt, impl.BuiltRead), vText("name"))
	wait := impl.Step(run)
	for _, y := range []impl.Reply{{Text: xs(3001)}, {Code: 4, Text: "x"}, {Code: 5, Text: "x"}, {Code: 1}, {Code: 2}, {Code: 3}, {Code: 6}, {Code: 9}, {Code: -1}, {Code: 4 + 1<<32}} {
		for _, m := range []impl.Machine{run, wait, overBy(0, "", 1), {}} {
			wantMachine(t, y, checkAnswer(t, m, y), impl.Machine{})
		}
	}
	for _, y := range []impl.Reply{{}, {Text: xs(3000)}, {Text: mainOf("return \"\";")}, goneReply, belowReply} {
		for _, m := range []impl.Machine{run, overBy(0, "", 1)} {
			wantMachine(t, y, checkAnswer(t, m, y), m)
		}
		wrong := newMachine(wait)
		wrong.Looks = 0
		wantMachine(t, y, checkAnswer(t, wrong, y), impl.Machine{})
	}
}

// A tool's program comes with its reply, and goes when its main returns.
func TestAnswerTool(t *testing.T) {
	tool := "fn g(a u8) -> text { return arg() + dec(a); } " + mainOf("let a = 1u8; let b = true; return g(a);")
	wait := goneOn(t, begunOf(t, toolCaller, impl.Job{Arg: "arg"}))
	if wait.Kind != impl.LookTool || wait.Name != "t" || wait.Hold != "hold" || wait.Steps != 4 || len(wait.Frames) != 2 {
		t.Fatal(writtenMachine(wait))
	}
	want := newMachine(wait)
	want.Kind, want.Name, want.Hold, want.Steps = 0, "", "", 5
	want.Codes = append(want.Codes, impl.Compile(parsed(t, tool)))
	want.Args = append(want.Args, "hold")
	want.Frames = append(want.Frames, impl.Frame{Code: 1, Fn: 1, Slots: make([]impl.Value, 2)})
	in := checkAnswer(t, wait, impl.Reply{Text: tool})
	wantMachine(t, "the tool's main", in, want)

	// Ahead of the return of g, and behind it: the program stays.
	m := in
	for len(m.Frames) != 4 {
		m = checkState(t, m)
	}
	for len(m.Frames) != 3 {
		m = checkState(t, m)
	}
	if len(m.Codes) != 2 || !slices.Equal(m.Args, []string{"arg", "hold"}) || m.Frames[2].Stack[0] != vText("hold1") {
		t.Error(writtenMachine(m))
	}
	// The return of the tool's main takes it away.
	want = newMachine(wait)
	want.Kind, want.Name, want.Hold, want.Steps = 0, "", "", m.Steps
	want.Frames[1].Stack = append(want.Frames[1].Stack, vText("hold1"))
	wantMachine(t, "behind the tool", checkState(t, m), want)
	end := goneOn(t, m)
	wantMachine(t, "the end", end, overBy(impl.Done, "<hold1>arg", 10))
}

// Tools within tools: a word is told with the function whose frame is the last.
func TestAnswerToolWithin(t *testing.T) {
	wait := goneOn(t, begunOf(t, toolCaller, impl.Job{Arg: "arg"}))
	inner := "fn g() -> text { return tool(\"u\", arg() + \"+\"); } " + mainOf("return g() + g();")
	first := answeredBy(t, wait, impl.Reply{Text: inner})
	second := answeredBy(t, first, impl.Reply{Text: inner})
	if len(second.Codes) != 3 || len(second.Frames) != 6 || !slices.Equal(second.Args, []string{"arg", "hold", "hold+"}) || second.Hold != "hold++" {
		t.Fatal(writtenMachine(second))
	}
	for _, src := range []string{"", "x", "fn main() { }", mainOf("return 1;"), mainOf("return f(\"\");"), "fn g() { }", inMain("") + " " + inMain("")} {
		wantMachine(t, src, checkAnswer(t, wait, impl.Reply{Text: src}), overBy(impl.Broken, "tool in f", wait.Steps))
		wantMachine(t, src, checkAnswer(t, first, impl.Reply{Text: src}), overBy(impl.Broken, "tool in g", first.Steps))
		wantMachine(t, src, checkAnswer(t, second, impl.Reply{Text: src}), overBy(impl.Broken, "tool in g", second.Steps))
	}
	for _, m := range []impl.Machine{first, second} {
		wantMachine(t, "gone", checkAnswer(t, m, goneReply), overBy(impl.Missing, "u", m.Steps))
		wantMachine(t, "below", checkAnswer(t, m, belowReply), overBy(impl.Below, "u", m.Steps))
	}
	plainTool := impl.Reply{Text: mainOf("return arg();")}
	end := answeredBy(t, second, plainTool, plainTool, plainTool)
	wantMachine(t, "all of them", end, overBy(impl.Done, "<hold++hold++hold+>arg", end.Steps))
	// Behind a tool within a tool, the outer one's arg is its own again.
	back := answeredBy(t, second, plainTool, plainTool)
	if len(back.Codes) != 2 || len(back.Frames) != 4 || !slices.Equal(back.Args, []string{"arg", "hold"}) || back.Hold != "hold+" {
		t.Error(writtenMachine(back))
	}
}

// A tool's main that calls itself: the program stays until the first of these returns.
func TestAnswerToolMainAgain(t *testing.T) {
	tool := impl.Reply{Text: mainOf("if has(\"a\") { return \"in\" + arg(); } return main() + arg();")}
	m := answeredBy(t, begunOf(t, toolCaller, impl.Job{Arg: "arg"}), tool, goneReply, goneReply)
	if len(m.Codes) != 2 || len(m.Frames) != 5 || m.Kind != impl.LookHas {
		t.Fatal(writtenMachine(m))
	}
	m = checkAnswer(t, m, belowReply)
	for frames := 5; frames > 3; frames-- {
		for len(m.Frames) == frames {
			m = checkState(t, m)
		}
		if len(m.Codes) != 2 || len(m.Args) != 2 || len(m.Frames) != frames-1 {
			t.Fatal(writtenMachine(m))
		}
	}
	for len(m.Frames) == 3 {
		m = checkState(t, m)
	}
	if len(m.Codes) != 1 || len(m.Args) != 1 || len(m.Frames) != 2 {
		t.Error(writtenMachine(m))
	}
	wantMachine(t, "the end", goneOn(t, m), overBy(impl.Done, "<inholdholdhold>arg", 13))
}

// The order of a tool's ends: the program, deep, the step.
func TestAnswerToolLimits(t *testing.T) {
	tool, none := impl.Reply{Text: mainOf("return \"r\";")}, impl.Reply{Text: "x"}
	for _, calls := range []int{2, 39, 40} {
		m := goneOn(t, begunOf(t, below(calls, "return tool(\"t\", \"\");"), impl.Job{}))
		if len(m.Frames) != calls || m.Kind != impl.LookTool {
			t.Fatal(writtenMachine(m))
		}
		for _, steps := range []int{100, 3999, 4000} {
			m.Steps = steps
			wantMachine(t, "no program", checkAnswer(t, m, none), overBy(impl.Broken, "tool in f", steps))
			wantMachine(t, "gone", checkAnswer(t, m, goneReply), overBy(impl.Missing, "t", steps))
			got := checkAnswer(t, m, tool)
			switch {
			case calls == 40:
				wantMachine(t, "deep", got, overBy(impl.Broken, "deep in f", steps))
			case steps == 4000:
				wantMachine(t, "spent", got, overBy(impl.Spent, "", steps))
			case len(got.Frames) != calls+1 || got.Steps != steps+1 || len(got.Codes) != 2:
				t.Errorf("%d calls, %d steps: %s", calls, steps, writtenMachine(got))
			}
		}
	}
	// Forty programs under way, each in one frame.
	caller := impl.Reply{Text: mainOf("return tool(\"t\", arg() + \".\");")}
	m := answeredBy(t, begunOf(t, caller.Text, impl.Job{}), slices.Repeat([]impl.Reply{caller}, 39)...)
	if len(m.Codes) != 40 || len(m.Frames) != 40 || m.Looks != 40 || m.Hold != strings.Repeat(".", 40) || !impl.ValidMachine(m) {
		t.Fatal(writtenMachine(m))
	}
	wantMachine(t, "deep", checkAnswer(t, m, tool), overBy(impl.Broken, "deep in main", 80))
	wantMachine(t, "no program", checkAnswer(t, m, none), overBy(impl.Broken, "tool in main", 80))
}

func TestGo(t *testing.T) {
	// Two instructions, and then five a round.
	c := cCode(cMain(1, cPush(vI64(0)), cOp(impl.InsStore, 0), cOp(impl.InsLoad, 0), cPush(vI64(1)), cOp(impl.InsBin, impl.OpAdd), cOp(impl.InsStore, 0), cOp(impl.InsJump, 2)))
	m := startOf(t, c, impl.Job{})
	for _, most := range []int{math.MinInt, -100001, -1, 0} {
		wantMachine(t, most, impl.Go(m, most), m)
	}
	want := m
	for most := range 30 {
		wantMachine(t, most, impl.Go(m, most), want)
		want = impl.Step(want)
	}
	at := func(m impl.Machine) [2]int { return [2]int{int(m.Frames[0].Slots[0].N), m.Frames[0].At} }
	for _, c := range []struct {
		most int
		at   [2]int
	}{
		{99997, [2]int{19999, 2}}, {99998, [2]int{19999, 3}}, {99999, [2]int{19999, 4}}, {100000, [2]int{19999, 5}},
		{100001, [2]int{19999, 5}}, {200000, [2]int{19999, 5}}, {1 << 40, [2]int{19999, 5}}, {math.MaxInt, [2]int{19999, 5}},
	} {
		if got := impl.Go(m, c.most); at(got) != c.at || !impl.ValidMachine(got) {
			t.Errorf("%d: %v, want %v", c.most, at(got), c.at)
		}
	}
}

// Go ends early at a look and at the end, and does not go on from there.
func TestGoStops(t *testing.T) {
	src := mainOf("say \"1\"; let a = read(\"a\"); say a; return a;")
	m := begunOf(t, src, impl.Job{})
	step := m
	for most := range 20 {
		wantMachine(t, most, impl.Go(m, most), step)
		step = checkState(t, step)
	}
	if step.Kind != impl.LookRead || step.Frames[0].At != 6 {
		t.Fatal(writtenMachine(step))
	}
	for _, most := range []int{6, 7, 100, 100000, math.MaxInt} {
		wantMachine(t, most, impl.Go(m, most), step)
		wantMachine(t, most, impl.Go(step, most), step)
	}
	m = checkAnswer(t, step, impl.Reply{Text: "x"})
	step = m
	for most := range 20 {
		wantMachine(t, most, impl.Go(m, most), step)
		step = checkState(t, step)
	}
	want := overBy(impl.Done, "x", 5)
	want.Said = []string{"1", "x"}
	wantMachine(t, "the end", step, want)
	for _, most := range []int{7, 8, 100, 100000, math.MaxInt} {
		wantMachine(t, most, impl.Go(m, most), want)
	}
}

func TestShown(t *testing.T) {
	files, said := []impl.File{{Name: "a", Text: "1"}}, []string{"s", ""}
	for kind := impl.LookRead; kind <= impl.LookTool; kind++ {
		lie := []impl.Value{vText("name"), vText("hold")}[:1+kind/4]
		m := inWork(t, cOp(impl.InsBuilt, kind), lie...)
		m.Files, m.Said = files, said
		if got, want := impl.Shown(m), (impl.Turn{Steps: 2, Said: said}); !sameTurn(got, want) {
			t.Errorf("at work: %+v", got)
		}
		m = impl.Step(m)
		want := impl.Turn{Kind: []int{0, impl.LookRead, impl.LookHas, impl.LookList, impl.LookRead}[kind], Name: "name", Steps: 2, Said: said}
		if got := impl.Shown(m); !sameTurn(got, want) {
			t.Errorf("%d: %+v", kind, got)
		}
	}
	for end := impl.Done; end <= impl.Below; end++ {
		m := overBy(end, "text", 4000)
		m.Said = said
		if end == impl.Done {
			m.Files = files
		}
		want := impl.Turn{Over: true, Code: end, Text: "text", Steps: 4000, Files: m.Files, Said: said}
		if got := impl.Shown(m); !sameTurn(got, want) {
			t.Errorf("%d: %+v", end, got)
		}
		m.Looks = 1
		if got := impl.Shown(m); !sameTurn(got, impl.Turn{}) {
			t.Errorf("%d, not valid: %+v", end, got)
		}
	}
}
