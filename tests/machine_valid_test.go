package tests

import (
	"fmt"
	"math"
	"slices"
	"strings"
	"testing"

	"loop.example/kilnmill/impl"
)

// machineBend is one thing that is changed in a machine, and whether it is valid then.
type machineBend struct {
	what  string
	right bool
	bend  func(m *impl.Machine)
}

// wantBends: each of these, alone, in a machine that is valid.
func wantBends(t *testing.T, m impl.Machine, bends []machineBend) {
	t.Helper()
	if !impl.ValidMachine(m) {
		t.Fatalf("not valid: %s", writtenMachine(m))
	}
	for _, b := range bends {
		bent := newMachine(m)
		b.bend(&bent)
		if got := impl.ValidMachine(bent); got != b.right {
			t.Errorf("%s: %v", b.what, got)
		}
		checkState(t, bent)
		checkAnswer(t, bent, impl.Reply{})
	}
}

// numbersOf sets a number of a machine to some near the ends of what it may be.
func numbersOf(what string, least, most int, of func(m *impl.Machine) *int) []machineBend {
	var list []machineBend
	for _, n := range []int{math.MinInt, least - 1, least, least + 1, most - 1, most, most + 1, most + 1<<32, math.MaxInt} {
		list = append(list, machineBend{fmt.Sprint(what, " ", n), n >= least && n <= most, func(m *impl.Machine) { *of(m) = n }})
	}
	return list
}

// sizesOf sets a text of a machine to some that are nearly too long.
func sizesOf(what string, of func(m *impl.Machine) *string) []machineBend {
	var list []machineBend
	for _, size := range []int{0, 1, 2999, 3000, 3001, 100000} {
		list = append(list, machineBend{fmt.Sprint(what, " of ", size), size <= 3000, func(m *impl.Machine) { *of(m) = strings.Repeat("\x00", size) }})
	}
	return list
}

const richCaller = `
fn f(a u8, b text) -> text { let c = a + 1u8; if c == 0u8 { let d = true; } return b + tool("t", dec(c)); }
fn g(a text) { say a; }
fn main() -> text { let x = 5u8; g("said"); write "o", "w"; return "p" + f(x, "q"); }`

const richTool = `
fn h(n i64) -> text { let k = n; if n > 0 { return "k" + h(n - 1); } return "m" + read("r") + arg(); }
fn main() -> text { let z = true; return h(2); }`

// rich is a machine with two programs, six frames, and something everywhere; it waits for what h reads.
func rich(t *testing.T) impl.Machine {
	t.Helper()
	m := answeredBy(t, begunOf(t, richCaller, impl.Job{Arg: "arg", Outs: []string{"n", "o", "p"}}), impl.Reply{Text: richTool})
	if len(m.Codes) != 2 || len(m.Frames) != 6 || m.Kind != impl.LookRead || len(m.Said) != 1 || len(m.Files) != 1 || m.Looks != 2 {
		t.Fatal(writtenMachine(m))
	}
	return m
}

// What holds of all machines: Files, Said and Steps.
func TestValidMachineAll(t *testing.T) {
	wait := rich(t)
	work := impl.Answer(wait, impl.Reply{Text: "r"})
	end := overBy(impl.Done, "text", 9)
	end.Files, end.Said = []impl.File{{Name: "o", Text: "w"}}, []string{"s"}
	var bends []machineBend
	bends = append(bends, numbersOf("Steps", 0, 4000, func(m *impl.Machine) *int { return &m.Steps })...)
	bends = append(bends, sizesOf("a file", func(m *impl.Machine) *string { return &m.Files[0].Text })...)
	bends = append(bends, sizesOf("what is said", func(m *impl.Machine) *string { return &m.Said[0] })...)
	for _, count := range []int{0, 1, 49, 50, 51, 1000} {
		bends = append(bends, machineBend{fmt.Sprint("said ", count), count <= 50, func(m *impl.Machine) { m.Said = slices.Repeat([]string{xs(3000)}, count) }})
	}
	file := func(names ...string) func(m *impl.Machine) {
		return func(m *impl.Machine) {
			m.Files = nil
			for _, name := range names {
				m.Files = append(m.Files, impl.File{Name: name, Text: "x"})
			}
		}
	}
	bends = append(bends,
		machineBend{"no files", true, file()},
		machineBend{"three files", true, file("n", "o", "p")},
		machineBend{"two files", true, file("n", "p")},
		machineBend{"files that go down", false, file("o", "n")},
		machineBend{"files that go down at the end", false, file("n", "p", "o")},
		machineBend{"a file twice", false, file("o", "o")},
		machineBend{"a file twice", false, file("n", "o", "o")},
		machineBend{"a last text that is too long", false, func(m *impl.Machine) {
			m.Files = []impl.File{{Name: "n"}, {Name: "o", Text: xs(3001)}}
		}},
		machineBend{"what is said last is too long", false, func(m *impl.Machine) { m.Said = append(m.Said, xs(3001)) }},
	)
	for _, name := range []string{"", " ", "a b", "a\n", "\x7f", "\x80", xs(61)} {
		bends = append(bends, machineBend{"a file " + name, false, file(name)})
	}
	for _, m := range []impl.Machine{wait, work, end} {
		wantBends(t, m, bends)
	}
	// Names that a run may have written, if they are among the Outs of one that is not over.
	var names []string
	for i := range 21 {
		names = append(names, fmt.Sprintf("o%02d", i))
	}
	for _, list := range [][]string{{"!"}, {"~"}, {xs(60)}, {"a", "aa", "b"}, names[:20]} {
		wantBends(t, end, []machineBend{{"files of one that is over", true, file(list...)}})
		wantBends(t, work, []machineBend{
			{"files that are none of Outs", false, file(list...)},
			{"files of Outs", true, func(m *impl.Machine) { file(list...)(m); m.Outs = list }},
			{"Outs that lack the last file", false, func(m *impl.Machine) { file(list...)(m); m.Outs = list[:len(list)-1] }},
		})
	}
	wantBends(t, end, []machineBend{{"too many files", false, file(names...)}})
	wantBends(t, work, []machineBend{{"too many files", false, func(m *impl.Machine) { file(names...)(m); m.Outs = names }}})
}

// A machine that is over has nothing else.
func TestValidMachineOver(t *testing.T) {
	end := overBy(impl.Done, "", 4000)
	bends := append(numbersOf("End", 0, 5, func(m *impl.Machine) *int { return &m.End }), sizesOf("Text", func(m *impl.Machine) *string { return &m.Text })...)
	bends = append(bends,
		machineBend{"not over", false, func(m *impl.Machine) { m.Over = false }},
		machineBend{"codes", false, func(m *impl.Machine) { m.Codes = []impl.Code{cCode(cReturning())} }},
		machineBend{"a code of nothing", false, func(m *impl.Machine) { m.Codes = []impl.Code{{}} }},
		machineBend{"args", false, func(m *impl.Machine) { m.Args = []string{""} }},
		machineBend{"outs", false, func(m *impl.Machine) { m.Outs = []string{"o"} }},
		machineBend{"frames", false, func(m *impl.Machine) { m.Frames = make([]impl.Frame, 1) }},
		machineBend{"looks", false, func(m *impl.Machine) { m.Looks = 1 }},
		machineBend{"looks", false, func(m *impl.Machine) { m.Looks = -1 }},
		machineBend{"a kind", false, func(m *impl.Machine) { m.Kind = impl.LookRead }},
		machineBend{"a name", false, func(m *impl.Machine) { m.Name = "a" }},
		machineBend{"a look", false, func(m *impl.Machine) { m.Kind, m.Name, m.Looks = impl.LookRead, "a", 1 }},
		machineBend{"a hold", false, func(m *impl.Machine) { m.Hold = "a" }},
		machineBend{"lists that are empty", true, func(m *impl.Machine) {
			m.Codes, m.Args, m.Outs, m.Frames, m.Files, m.Said = []impl.Code{}, []string{}, []string{}, []impl.Frame{}, []impl.File{}, []string{}
		}},
	)
	for code := impl.Done; code <= impl.Below; code++ {
		bends = append(bends, machineBend{fmt.Sprint("files with ", code), code == impl.Done, func(m *impl.Machine) {
			m.End, m.Files = code, []impl.File{{Name: "o"}}
		}})
	}
	wantBends(t, end, bends)
	wantBends(t, overBy(impl.Broken, "range in f", 1), bends[:len(bends)-6])
	// All that a machine that waits or works has, made over: its own, too.
	for _, m := range []impl.Machine{rich(t), impl.Answer(rich(t), impl.Reply{})} {
		wantBends(t, m, []machineBend{{"over", false, func(m *impl.Machine) { m.Over = true }}})
	}
}

// What a machine has that is not over, but for its look and its frames.
func TestValidMachineAtWork(t *testing.T) {
	wait := rich(t)
	work := impl.Answer(wait, impl.Reply{Text: "r"})
	bends := append(sizesOf("the first arg", func(m *impl.Machine) *string { return &m.Args[0] }), sizesOf("the last arg", func(m *impl.Machine) *string { return &m.Args[1] })...)
	names := func(list ...string) func(m *impl.Machine) {
		return func(m *impl.Machine) { m.Outs, m.Files = list, nil }
	}
	var many []string
	for i := range 21 {
		many = append(many, fmt.Sprintf("o%02d", i))
	}
	bends = append(bends,
		machineBend{"fewer args", false, func(m *impl.Machine) { m.Args = m.Args[:1] }},
		machineBend{"more args", false, func(m *impl.Machine) { m.Args = append(m.Args, "") }},
		machineBend{"no args", false, func(m *impl.Machine) { m.Args = nil }},
		machineBend{"End 1", false, func(m *impl.Machine) { m.End = 1 }},
		machineBend{"End -1", false, func(m *impl.Machine) { m.End = -1 }},
		machineBend{"a text", false, func(m *impl.Machine) { m.Text = "x" }},
		machineBend{"no outs", true, names()},
		machineBend{"no outs, but files", false, func(m *impl.Machine) { m.Outs = nil }},
		machineBend{"outs", true, names("!", xs(60), "~")},
		machineBend{"twenty outs", true, names(many[:20]...)},
		machineBend{"too many outs", false, names(many...)},
		machineBend{"outs that go down", false, names("b", "a")},
		machineBend{"an out twice", false, names("a", "b", "b")},
		machineBend{"an out without a name", false, names("")},
		machineBend{"an out that is no name", false, names("a", "b c")},
		machineBend{"an out that is too long", false, names(xs(61))},
		machineBend{"no code", false, func(m *impl.Machine) { m.Codes, m.Args = nil, nil }},
		machineBend{"one code more", false, func(m *impl.Machine) { m.Codes, m.Args = append(m.Codes, m.Codes[1]), append(m.Args, "") }},
		machineBend{"one code less", false, func(m *impl.Machine) { m.Codes, m.Args = m.Codes[:1], m.Args[:1] }},
		machineBend{"codes changed for each other", false, func(m *impl.Machine) { slices.Reverse(m.Codes) }},
		machineBend{"no frames", false, func(m *impl.Machine) { m.Frames = nil }},
	)
	// Codes that are not valid, each for another reason; f and g are no longer at work, main and h are.
	for k := range 2 {
		for i, bend := range []func(c *impl.Code){
			func(c *impl.Code) { c.Fns = nil },
			func(c *impl.Code) { c.Fns = slices.Repeat(c.Fns, 30) },
			func(c *impl.Code) { c.Fns[0].Name = "no name" },
			func(c *impl.Code) { c.Fns[len(c.Fns)-1].Name = "mains" },
			func(c *impl.Code) { c.Fns[0].Slots = 201 },
			func(c *impl.Code) { c.Fns[0].Params[0] = 0 },
			func(c *impl.Code) { c.Fns[0].Result = 11 },
			func(c *impl.Code) { c.Fns[0].Ins[0].Op = 17 },
			func(c *impl.Code) { c.Fns[0].Ins[0].N = 1 },
			func(c *impl.Code) { c.Fns[0].Ins[0] = cOp(impl.InsDrop, 0) },
			func(c *impl.Code) {
				c.Fns = append(c.Fns, cFn("z", nil, 0, 0, cOp(impl.InsSay, 0), cOp(impl.InsReturn, 0)))
			},
			func(c *impl.Code) { c.Fns = append(c.Fns, cFn("z", nil, 0, 0, cOp(impl.InsStep, 0))) },
		} {
			bends = append(bends, machineBend{fmt.Sprint("code ", k, ", ", i), false, func(m *impl.Machine) { bend(&m.Codes[k]) }})
		}
		bends = append(bends, machineBend{"a function more", true, func(m *impl.Machine) {
			m.Codes[k].Fns = append(m.Codes[k].Fns, cFn("z", nil, 0, 0, cOp(impl.InsReturn, 0)))
		}})
	}
	wantBends(t, wait, append(bends, numbersOf("Looks", 1, 100, func(m *impl.Machine) *int { return &m.Looks })...))
	wantBends(t, work, append(bends, numbersOf("Looks", 0, 100, func(m *impl.Machine) *int { return &m.Looks })...))
}

// Kind, Name, Hold and Looks of a machine that waits, and of one that does not.
func TestValidMachineLook(t *testing.T) {
	for kind := impl.LookRead; kind <= impl.LookTool; kind++ {
		lie := []impl.Value{vText("below"), vText("name"), vText("hold")}[:2+kind/4]
		work := inWork(t, cOp(impl.InsBuilt, kind), lie...)
		wait := impl.Step(work)
		var bends []machineBend
		for other := -1; other <= 6; other++ {
			bends = append(bends, machineBend{fmt.Sprint(kind, " as ", other), other == kind, func(m *impl.Machine) { m.Kind = other }})
			bends = append(bends, machineBend{fmt.Sprint(kind, " as ", other), other == kind, func(m *impl.Machine) {
				if m.Kind = other; other != impl.LookTool {
					m.Hold = ""
				}
			}})
		}
		for _, name := range []string{"", "a", "!", "~", " ", "a b", "a\n", "\x7f", "\x80", xs(60), xs(61), xs(3000)} {
			right := fileForm.MatchString(name) || kind == impl.LookList && name == ""
			bends = append(bends, machineBend{fmt.Sprint(kind, " for ", name), right, func(m *impl.Machine) { m.Name = name }})
		}
		for _, size := range []int{0, 1, 3000, 3001} {
			right := size == 0 || kind == impl.LookTool && size <= 3000
			bends = append(bends, machineBend{fmt.Sprint(kind, " holds ", size), right, func(m *impl.Machine) { m.Hold = xs(size) }})
		}
		bends = append(bends, numbersOf("Looks", 1, 100, func(m *impl.Machine) *int { return &m.Looks })...)
		bends = append(bends,
			machineBend{"at the look", false, func(m *impl.Machine) { m.Frames[1].At-- }},
			machineBend{"behind the next one", false, func(m *impl.Machine) { m.Frames[1].At++ }},
			machineBend{"behind the next one, with what lies there", false, func(m *impl.Machine) {
				m.Frames[1].At++
				m.Frames[1].Stack = append(m.Frames[1].Stack, sampleOf(kind))
			}},
			machineBend{"with what it gives", false, func(m *impl.Machine) { m.Frames[1].Stack = append(m.Frames[1].Stack, sampleOf(kind)) }},
			machineBend{"without what lies below", false, func(m *impl.Machine) { m.Frames[1].Stack = nil }},
			machineBend{"not waiting", false, func(m *impl.Machine) { m.Kind, m.Name, m.Hold = 0, "", "" }},
			machineBend{"not waiting, with what it gives", true, func(m *impl.Machine) {
				m.Kind, m.Name, m.Hold = 0, "", ""
				m.Frames[1].Stack = append(m.Frames[1].Stack, sampleOf(kind))
			}},
		)
		wantBends(t, wait, bends)
		wantBends(t, work, []machineBend{
			{"a kind", false, func(m *impl.Machine) { m.Kind = kind }},
			{"a look", false, func(m *impl.Machine) { m.Kind, m.Name, m.Looks = kind, "name", 1 }},
			{"a name", false, func(m *impl.Machine) { m.Name = "name" }},
			{"a hold", false, func(m *impl.Machine) { m.Hold = "hold" }},
			{"no looks", true, func(m *impl.Machine) { m.Looks = 0 }},
			{"all looks", true, func(m *impl.Machine) { m.Looks = 100 }},
		})
	}
}

// sampleOf is something that a look gives.
func sampleOf(kind int) impl.Value {
	if kind == impl.LookHas {
		return vBool(true)
	}
	return vText("given")
}

// The frames' numbers: of programs, of functions, of places.
func TestValidMachineFrames(t *testing.T) {
	wait := rich(t)
	work := impl.Answer(wait, impl.Reply{Text: "r"})
	var bends []machineBend
	for i, f := range wait.Frames {
		for _, n := range []int{math.MinInt, -1, 0, 1, 2, 3, math.MaxInt} {
			bends = append(bends, machineBend{fmt.Sprint("frame ", i, " of code ", n), n == f.Code, func(m *impl.Machine) { m.Frames[i].Code = n }})
			bends = append(bends, machineBend{fmt.Sprint("frame ", i, " of function ", n), n == f.Fn, func(m *impl.Machine) { m.Frames[i].Fn = n }})
		}
		for at := -1; at < 40; at++ {
			bends = append(bends, machineBend{fmt.Sprint("frame ", i, " at ", at), at == f.At, func(m *impl.Machine) { m.Frames[i].At = at }})
		}
		for _, at := range []int{math.MinInt, f.At + 1<<32, math.MaxInt} {
			bends = append(bends, machineBend{fmt.Sprint("frame ", i, " at ", at), false, func(m *impl.Machine) { m.Frames[i].At = at }})
		}
		// Without one of the frames; the inner h calls are all the same, but for how many they are.
		bends = append(bends, machineBend{fmt.Sprint("without frame ", i), i == 3 || i == 4, func(m *impl.Machine) { m.Frames = slices.Delete(m.Frames, i, i+1) }})
		bends = append(bends, machineBend{fmt.Sprint("frame ", i, " twice"), i == 3 || i == 4, func(m *impl.Machine) { m.Frames = slices.Insert(m.Frames, i, m.Frames[i]) }})
	}
	wantBends(t, wait, bends)
	// Two texts lie at the look as well as behind it.
	for at, right := range map[int]bool{work.Frames[5].At: true, work.Frames[5].At - 1: true, work.Frames[5].At - 2: false, work.Frames[5].At + 1: false, 0: false} {
		wantBends(t, work, []machineBend{{fmt.Sprint("at work at ", at), right, func(m *impl.Machine) { m.Frames[5].At = at }}})
	}
	wantBends(t, work, []machineBend{
		{"at its beginning, with nothing there", true, func(m *impl.Machine) { m.Frames[5].At, m.Frames[5].Stack = 0, nil }},
		{"without the frames of the tool", false, func(m *impl.Machine) { m.Frames = m.Frames[:2] }},
		{"without the tool, waiting for it", true, func(m *impl.Machine) {
			m.Frames, m.Codes, m.Args = m.Frames[:2], m.Codes[:1], m.Args[:1]
			m.Kind, m.Name, m.Hold = impl.LookTool, "t", "6"
		}},
		{"without the tool, and not waiting", false, func(m *impl.Machine) {
			m.Frames, m.Codes, m.Args = m.Frames[:2], m.Codes[:1], m.Args[:1]
		}},
	})
}

// Where a program begins there is its main, and no other function that is like it.
func TestValidMachineMains(t *testing.T) {
	ins := []impl.Ins{cPush(vText("n")), cPush(vText("h")), cOp(impl.InsBuilt, impl.BuiltTool), cOp(impl.InsCall, 0), cPush(vText("x")), cOp(impl.InsReturn, 1)}
	// like has the instructions of main, but for its own call, which is of the other one.
	c := cCode(cMain(0, slices.Concat(ins[:3], ins[5:])...), cFn("like", nil, impl.TypeText, 0, slices.Concat(ins[:3], ins[5:])...))
	first := impl.Frame{Fn: 0, At: 3}
	m := impl.Machine{Codes: []impl.Code{c, c, c}, Args: make([]string, 3), Frames: []impl.Frame{first, {Code: 1, At: 3}, {Code: 2}}}
	wantBends(t, m, []machineBend{
		{"like at first", false, func(m *impl.Machine) { m.Frames[0].Fn = 1 }},
		{"like as a tool", false, func(m *impl.Machine) { m.Frames[1].Fn = 1 }},
		{"like as the last tool", false, func(m *impl.Machine) { m.Frames[2].Fn = 1 }},
		{"a code is left out", false, func(m *impl.Machine) { m.Frames = slices.Delete(m.Frames, 1, 2) }},
		{"the first is left out", false, func(m *impl.Machine) { m.Frames = m.Frames[1:] }},
		{"the last is left out", false, func(m *impl.Machine) { m.Frames = m.Frames[:2] }},
		{"the last is left out, with its code", false, func(m *impl.Machine) { m.Frames, m.Codes, m.Args = m.Frames[:2], m.Codes[:2], m.Args[:2] }},
		{"the last is at work", true, func(m *impl.Machine) {
			m.Frames, m.Codes, m.Args = m.Frames[:2], m.Codes[:2], m.Args[:2]
			m.Frames[1].Stack = []impl.Value{vText("t")}
		}},
		{"a code goes down", false, func(m *impl.Machine) { m.Frames[2].Code = 0 }},
		{"a code goes down and up again", false, func(m *impl.Machine) {
			m.Frames = append(m.Frames[:2:2], impl.Frame{Code: 0, At: 3}, impl.Frame{Code: 1, At: 3}, impl.Frame{Code: 2})
		}},
		{"a code stays, behind a tool's look", false, func(m *impl.Machine) { m.Frames = append(m.Frames[:2:2], impl.Frame{Code: 1, At: 3}, m.Frames[2]) }},
	})
	// The code goes up behind a call, and stays behind a tool's look.
	c = cCode(cMain(0, ins...))
	call := impl.Frame{At: 4, Stack: []impl.Value{vText("t")}}
	m = impl.Machine{Codes: []impl.Code{c}, Args: []string{""}, Frames: []impl.Frame{call, {}}}
	wantBends(t, m, []machineBend{
		{"up behind a call", false, func(m *impl.Machine) { m.Codes, m.Args, m.Frames[1].Code = []impl.Code{c, c}, []string{"", ""}, 1 }},
		{"up behind a look", true, func(m *impl.Machine) {
			m.Codes, m.Args, m.Frames[1].Code = []impl.Code{c, c}, []string{"", ""}, 1
			m.Frames[0] = impl.Frame{At: 3}
		}},
		{"not up behind a look", false, func(m *impl.Machine) { m.Frames[0] = impl.Frame{At: 3} }},
		{"no frame behind a look", false, func(m *impl.Machine) { m.Frames = []impl.Frame{{At: 3}} }},
		{"no frame behind a call", false, func(m *impl.Machine) { m.Frames = []impl.Frame{call} }},
	})
	// At a look of another kind no tool begins.
	c = cCode(cMain(0, cPush(vText("n")), cOp(impl.InsBuilt, impl.BuiltRead), cOp(impl.InsReturn, 1)))
	m = impl.Machine{Codes: []impl.Code{c}, Args: []string{""}, Frames: []impl.Frame{{}}}
	wantBends(t, m, []machineBend{{"a tool behind read", false, func(m *impl.Machine) {
		m.Codes, m.Args, m.Frames = []impl.Code{c, c}, []string{"", ""}, []impl.Frame{{At: 2}, {Code: 1}}
	}}})
}

// Slots and stacks: as many as the shape has, and of its types.
func TestValidMachineValues(t *testing.T) {
	wait := rich(t)
	work := impl.Answer(wait, impl.Reply{Text: "r"})
	for _, base := range []impl.Machine{wait, work} {
		var bends []machineBend
		for i, f := range base.Frames {
			for k, v := range f.Slots {
				known := impl.Shapes(base.Codes[f.Code], f.Fn)[f.At].Slots[k]
				for typ := impl.TypeBool; typ <= impl.TypeI64; typ++ {
					bends = append(bends, machineBend{fmt.Sprint("frame ", i, " slot ", k, " of type ", typ), known == 0 || typ == known, func(m *impl.Machine) { m.Frames[i].Slots[k] = edgeValues(typ)[0] }})
				}
				for _, wrong := range wrongValues() {
					right := wrong == impl.Value{} && known == 0
					bends = append(bends, machineBend{fmt.Sprintf("frame %d slot %d as %.50v", i, k, wrong), right, func(m *impl.Machine) { m.Frames[i].Slots[k] = wrong }})
				}
				bends = append(bends, machineBend{fmt.Sprint("frame ", i, " without slot ", k), false, func(m *impl.Machine) { m.Frames[i].Slots = slices.Delete(m.Frames[i].Slots, k, k+1) }})
				if known != 0 && v.Type != known {
					t.Errorf("frame %d slot %d: %v", i, k, v)
				}
			}
			bends = append(bends, machineBend{fmt.Sprint("frame ", i, " with one more slot"), false, func(m *impl.Machine) { m.Frames[i].Slots = append(m.Frames[i].Slots, impl.Value{}) }})
			for k, v := range f.Stack {
				for typ := impl.TypeBool; typ <= impl.TypeI64; typ++ {
					bends = append(bends, machineBend{fmt.Sprint("frame ", i, " stack ", k, " of type ", typ), typ == v.Type, func(m *impl.Machine) { m.Frames[i].Stack[k] = edgeValues(typ)[0] }})
				}
				for _, wrong := range wrongValues() {
					bends = append(bends, machineBend{fmt.Sprintf("frame %d stack %d as %.50v", i, k, wrong), false, func(m *impl.Machine) { m.Frames[i].Stack[k] = wrong }})
				}
				bends = append(bends, machineBend{fmt.Sprint("frame ", i, " without stack ", k), false, func(m *impl.Machine) { m.Frames[i].Stack = slices.Delete(m.Frames[i].Stack, k, k+1) }})
			}
			for _, more := range []impl.Value{{}, vText("x"), vBool(true)} {
				bends = append(bends, machineBend{fmt.Sprint("frame ", i, " with one more on its stack"), false, func(m *impl.Machine) { m.Frames[i].Stack = append(m.Frames[i].Stack, more) }})
			}
		}
		wantBends(t, base, bends)
	}
}

// A function without a result is waited for with all that lies there.
func TestValidMachineNoResult(t *testing.T) {
	x := cPush(vText("x"))
	none, give := cFn("none", nil, 0, 0, cOp(impl.InsReturn, 0)), cFn("give", nil, impl.TypeText, 0, x, cOp(impl.InsReturn, 1))
	for f, lacks := range []bool{1: false, 2: true} {
		if f == 0 {
			continue
		}
		c := cCode(cMain(0, x, cOp(impl.InsCall, f), cOp(impl.InsReturn, 1)), none, give)
		m := impl.Go(startOf(t, c, impl.Job{}), 2)
		if len(m.Frames) != 2 || len(m.Frames[0].Stack) != 1 {
			t.Fatal(writtenMachine(m))
		}
		wantBends(t, m, []machineBend{
			{"nothing lies there", false, func(m *impl.Machine) { m.Frames[0].Stack = nil }},
			{"two lie there", false, func(m *impl.Machine) { m.Frames[0].Stack = append(m.Frames[0].Stack, vText("y")) }},
			{"it has returned", !lacks, func(m *impl.Machine) { m.Frames = m.Frames[:1] }},
			{"it has returned with something", lacks, func(m *impl.Machine) {
				m.Frames = m.Frames[:1]
				m.Frames[0].Stack = append(m.Frames[0].Stack, vText("y"))
			}},
			{"it is another function", false, func(m *impl.Machine) { m.Frames[1].Fn = 3 - f }},
		})
	}
}

// A place to which no way leads is none to stand at or behind.
func TestValidMachineNoWay(t *testing.T) {
	x := cPush(vText("x"))
	none := cFn("none", nil, 0, 0, cOp(impl.InsReturn, 0))
	// Place 1 is a call to which nothing leads, place 5 one at which nothing lies.
	c := cCode(cMain(0, cOp(impl.InsJump, 2), cOp(impl.InsCall, 1), cOp(impl.InsCall, 1), x, cOp(impl.InsReturn, 1), cOp(impl.InsJump, 5)), none)
	m := impl.Machine{Codes: []impl.Code{c}, Args: []string{""}, Frames: []impl.Frame{{At: 3}, {Fn: 1}}}
	wantBends(t, m, []machineBend{
		{"behind a call of State 0", false, func(m *impl.Machine) { m.Frames[0].At = 2 }},
		{"there, at work", true, func(m *impl.Machine) { m.Frames = []impl.Frame{{At: 2}} }},
		{"at a call of State 0", false, func(m *impl.Machine) { m.Frames = []impl.Frame{{At: 1}} }},
		{"at a jump of State 0", false, func(m *impl.Machine) { m.Frames = []impl.Frame{{At: 5}} }},
		{"at the number of instructions", false, func(m *impl.Machine) { m.Frames = []impl.Frame{{At: 6}} }},
		{"at the end", true, func(m *impl.Machine) { m.Frames = []impl.Frame{{At: 4, Stack: []impl.Value{vText("y")}}} }},
	})
	c = cCode(cMain(0, x, cOp(impl.InsJump, 3), cOp(impl.InsBuilt, impl.BuiltRead), cOp(impl.InsReturn, 1)))
	m = impl.Machine{Codes: []impl.Code{c}, Args: []string{""}, Frames: []impl.Frame{{At: 3, Stack: []impl.Value{vText("y")}}}}
	wantBends(t, m, []machineBend{
		{"behind a look of State 0", false, func(m *impl.Machine) { m.Frames[0].Stack, m.Kind, m.Name, m.Looks = nil, impl.LookRead, "n", 1 }},
		{"with what lies there", false, func(m *impl.Machine) { m.Kind, m.Name, m.Looks = impl.LookRead, "n", 1 }},
	})
	// A jump that leads behind a call: who stands there has the call in front.
	c = cCode(cMain(1, cPush(vBool(true)), cOp(impl.InsUnless, 3), cOp(impl.InsCall, 1), x, cOp(impl.InsReturn, 1)), none)
	m = impl.Machine{Codes: []impl.Code{c}, Args: []string{""}, Frames: []impl.Frame{{At: 3, Slots: make([]impl.Value, 1)}, {Fn: 1}}}
	wantBends(t, m, []machineBend{
		{"something in a slot", true, func(m *impl.Machine) { m.Frames[0].Slots[0] = vBool(true) }},
		{"without the call", true, func(m *impl.Machine) { m.Frames = m.Frames[:1] }},
	})
}

// As many frames as there may be, and one more; as many programs, and one more.
func TestValidMachineMaxCalls(t *testing.T) {
	m := callsTo(t, 40)
	wantBends(t, m, []machineBend{
		{"41 frames", false, func(m *impl.Machine) { m.Frames = slices.Insert(m.Frames, 5, m.Frames[5]) }},
		{"39 frames", true, func(m *impl.Machine) { m.Frames = slices.Delete(m.Frames, 5, 6) }},
	})
	caller := impl.Reply{Text: mainOf("return tool(\"t\", \"\");")}
	m = answeredBy(t, begunOf(t, caller.Text, impl.Job{}), slices.Repeat([]impl.Reply{caller}, 39)...)
	one := func(m *impl.Machine) {
		last := m.Frames[39]
		last.Code = 40
		m.Codes, m.Args, m.Frames = append(m.Codes, m.Codes[39]), append(m.Args, ""), append(m.Frames, last)
	}
	wantBends(t, m, []machineBend{
		{"41 codes", false, one},
		{"39 codes", true, func(m *impl.Machine) { m.Codes, m.Args, m.Frames = m.Codes[:39], m.Args[:39], m.Frames[:39] }},
	})
}
