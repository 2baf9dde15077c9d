package tests

import (
	"fmt"
	"math"
	"slices"
	"strings"
	"testing"

	"loop.example/kilnmill/impl"
)

func cOp(op, a int) impl.Ins { return impl.Ins{Op: op, A: a} }

func cPush(v impl.Value) impl.Ins {
	return impl.Ins{Op: impl.InsPush, A: v.Type, N: v.N, Text: v.Text}
}

// cOf pushes some value of a type.
func cOf(typ int) impl.Ins {
	if typ == impl.TypeText {
		return cPush(vText("x"))
	}
	return cPush(vInt(typ, 1))
}

func cFn(name string, params []int, result, slots int, ins ...impl.Ins) impl.Fn {
	return impl.Fn{Name: name, Params: params, Result: result, Slots: slots, Ins: ins}
}

func cMain(slots int, ins ...impl.Ins) impl.Fn {
	return cFn("main", nil, impl.TypeText, slots, ins...)
}

// cReturning is a main that does nothing else.
func cReturning() impl.Fn {
	return cMain(0, cPush(vText("x")), cOp(impl.InsReturn, 1))
}

func cCode(fns ...impl.Fn) impl.Code { return impl.Code{Fns: fns} }

// cBeside has functions behind a main, so their numbers are 1 and on.
func cBeside(fns ...impl.Fn) impl.Code {
	return cCode(append([]impl.Fn{cReturning()}, fns...)...)
}

// cTimes is an instruction as often as that, and others behind it.
func cTimes(count int, ins impl.Ins, behind ...impl.Ins) []impl.Ins {
	return append(slices.Repeat([]impl.Ins{ins}, count), behind...)
}

func wantFlaw(t *testing.T, what any, c impl.Code, want ...int) {
	t.Helper()
	if got := checkCode(t, c); got != [3]int(want) {
		t.Errorf("%v: %v, want %v", what, got, want)
	}
}

// wantRight: code 0 if it is right, otherwise this.
func wantRight(t *testing.T, what any, c impl.Code, right bool, flaw ...int) {
	t.Helper()
	if right {
		flaw = []int{0, 0, 0}
	}
	wantFlaw(t, what, c, flaw...)
}

func TestCodeFns(t *testing.T) {
	fns := []impl.Fn{cReturning()}
	for i := 1; i < 62; i++ {
		fns = append(fns, cFn("f"+strings.Repeat("x", i%20)+fmt.Sprint(i), nil, 0, 0, cOp(impl.InsReturn, 0)))
	}
	wantFlaw(t, "nothing", impl.Code{}, 1, 0, 0)
	wantFlaw(t, "an empty list", impl.Code{Fns: []impl.Fn{}}, 1, 0, 0)
	for _, count := range []int{1, 2, 59, 60, 61, 62} {
		wantRight(t, count, cCode(fns[:count]...), count <= impl.MaxFns, 1, 0, 0)
	}
	fns[3].Name = ""
	wantFlaw(t, "too many, and one is wrong", cCode(fns...), 1, 0, 0)
}

func TestCodeNames(t *testing.T) {
	for _, name := range []string{"a", "z", "f", "mains", "a_", "a9", "lets", "fnx", "u", "u9", xs(30)} {
		wantFlaw(t, name, cBeside(cFn(name, nil, 0, 0, cOp(impl.InsReturn, 0))), 0, 0, 0)
	}
	wrong := append(strings.Fields(allWords), "", "A", "aB", "_a", "1", "1a", "a b", " a", "a ", "a-b", "a\x00", "\x00", "é", "aé", "a\xff", "a\n", xs(31), xs(3000))
	for _, name := range wrong {
		wantFlaw(t, name, cBeside(cFn(name, nil, 0, 0, cOp(impl.InsReturn, 0))), 2, 1, 0)
	}
	f := cFn("f", nil, 0, 0, cOp(impl.InsReturn, 0))
	g := cFn("g", []int{impl.TypeU8}, 0, 1, cOp(impl.InsReturn, 0))
	again := cFn("f", []int{impl.TypeU8}, 0, 1, cOp(impl.InsReturn, 0))
	wantFlaw(t, "main again", cBeside(f, cReturning()), 2, 2, 0)
	wantFlaw(t, "f again", cBeside(f, g, again), 2, 3, 0)
	wantFlaw(t, "f and g again", cBeside(f, g, g, again), 2, 3, 0)
	wantFlaw(t, "f twice again", cBeside(f, again, g, again), 2, 2, 0)
}

func TestCodeParamsResultSlots(t *testing.T) {
	back := cOp(impl.InsReturn, 0)
	for _, typ := range []int{math.MinInt, -1, 0, 1, 2, 3, 4, 5, 6, 7, 8, 9, 10, 11, 12, 257, math.MaxInt} {
		isType := typ >= 1 && typ <= 10
		wantRight(t, typ, cBeside(cFn("f", []int{typ}, 0, 1, back)), isType, 2, 1, 0)
		wantRight(t, typ, cBeside(cFn("f", []int{1, 2, 3, 4, 5, 6, 7, typ}, 0, 8, back)), isType, 2, 1, 0)
		wantRight(t, typ, cBeside(cFn("f", []int{typ, 2}, 0, 2, back)), isType, 2, 1, 0)
		ins := []impl.Ins{back}
		if typ != 0 {
			ins = []impl.Ins{cOp(impl.InsJump, 0), cOp(impl.InsReturn, 1)}
		}
		wantRight(t, typ, cBeside(cFn("f", nil, typ, 0, ins...)), isType || typ == 0, 2, 1, 0)
	}
	for count := range 11 {
		params := slices.Repeat([]int{impl.TypeI64}, count)
		wantRight(t, count, cBeside(cFn("f", params, 0, count, back)), count <= impl.MaxArgs, 2, 1, 0)
		for _, slots := range []int{math.MinInt, -1, count - 1, count, count + 1, 199, 200, 201, math.MaxInt} {
			right := count <= impl.MaxArgs && slots >= count && slots <= impl.MaxSlots
			wantRight(t, []int{count, slots}, cBeside(cFn("f", params, 0, slots, back)), right, 2, 1, 0)
		}
	}
	wantFlaw(t, "no instruction", cBeside(cFn("f", nil, 0, 0)), 2, 1, 0)
	wantFlaw(t, "no instruction", cBeside(impl.Fn{Name: "f", Ins: []impl.Ins{}}), 2, 1, 0)
	for _, count := range []int{1, 2, 49999, 50000, 50001} {
		f := cFn("f", nil, 0, 0, cTimes(count-1, cOp(impl.InsStep, 0), back)...)
		wantRight(t, count, cBeside(f), count <= impl.MaxIns, 2, 1, 0)
	}
}

// endsOfA has for each Op but InsPush the least and the greatest A in a function with three slots and three instructions, of a code with two functions.
var endsOfA = [][2]int{
	impl.InsLoad: {0, 2}, impl.InsStore: {0, 2}, impl.InsDrop: {0, 0},
	impl.InsUn: {1, 3}, impl.InsBin: {3, 18}, impl.InsConv: {3, 10}, impl.InsBuilt: {1, 12},
	impl.InsCall: {0, 1}, impl.InsJump: {0, 3}, impl.InsUnless: {0, 3}, impl.InsReturn: {0, 0},
	impl.InsFail: {0, 0}, impl.InsWrite: {0, 0}, impl.InsSay: {0, 0}, impl.InsStep: {0, 0},
}

// wantIns: an instruction at a place that nothing leads to, so that what lies there plays no part.
func wantIns(t *testing.T, ins impl.Ins, right bool) {
	t.Helper()
	back := cOp(impl.InsReturn, 0)
	wantRight(t, ins, cBeside(cFn("f", nil, 0, 3, back, ins, back)), right, 3, 1, 1)
}

func TestCodeIns(t *testing.T) {
	for op := impl.InsLoad; op <= impl.InsStep; op++ {
		least, most := endsOfA[op][0], endsOfA[op][1]
		for a := -2; a <= 20; a++ {
			wantIns(t, cOp(op, a), a >= least && a <= most)
		}
		for _, a := range []int{math.MinInt, math.MaxInt, 256, 1 << 32, -1 << 32} {
			wantIns(t, cOp(op, a), false)
		}
		for _, n := range []int64{1, -1, math.MinInt64, math.MaxInt64} {
			wantIns(t, impl.Ins{Op: op, A: least, N: n}, false)
		}
		for _, text := range []string{"x", "\x00", xs(3001)} {
			wantIns(t, impl.Ins{Op: op, A: least, Text: text}, false)
		}
	}
	for _, op := range []int{math.MinInt, -1, 0, 17, 18, 272, math.MaxInt} {
		wantIns(t, cOp(op, 0), false)
		wantIns(t, cOp(op, 1), false)
	}
	for typ := impl.TypeBool; typ <= impl.TypeI64; typ++ {
		for _, v := range edgeValues(typ) {
			wantIns(t, cPush(v), true)
		}
	}
	for _, v := range wrongValues() {
		wantIns(t, cPush(v), false)
	}
}

// A of InsReturn hangs on the Result; slots, functions and places on how many there are.
func TestCodeInsOfFn(t *testing.T) {
	for result := range 11 {
		for a := -1; a <= 2; a++ {
			f := cFn("f", nil, result, 0, cOp(impl.InsJump, 0), cOp(impl.InsReturn, a))
			right := a == 1 && result != 0 || a == 0 && result == 0
			wantRight(t, []int{result, a}, cBeside(f), right, 3, 1, 1)
		}
	}
	for _, slots := range []int{0, 1, 2, 199, 200} {
		for _, op := range []int{impl.InsLoad, impl.InsStore} {
			for _, a := range []int{-1, 0, slots - 1, slots, slots + 1, 200} {
				f := cFn("f", nil, 0, slots, cOp(impl.InsJump, 0), cOp(op, a))
				wantRight(t, []int{op, slots, a}, cBeside(f), a >= 0 && a < slots, 3, 1, 1)
			}
		}
	}
	for _, behind := range []int{0, 1, 5, 49998} {
		for _, op := range []int{impl.InsJump, impl.InsUnless} {
			for _, a := range []int{-1, 0, 1, behind + 1, behind + 2, behind + 3, 50001} {
				f := cFn("f", nil, 0, 0, append([]impl.Ins{cOp(impl.InsJump, 0), cOp(op, a)}, cTimes(behind, cOp(impl.InsStep, 0))...)...)
				wantRight(t, []int{op, behind, a}, cBeside(f), a >= 0 && a <= behind+2, 3, 1, 1)
			}
		}
	}
	f, g := cFn("f", nil, 0, 0, cOp(impl.InsJump, 0), cOp(impl.InsCall, 2)), cFn("g", nil, 0, 0, cOp(impl.InsReturn, 0))
	wantFlaw(t, "a function behind", cBeside(f, g), 0, 0, 0)
	wantFlaw(t, "one past the last function", cBeside(f), 3, 1, 1)
}

func TestCodeMain(t *testing.T) {
	back := cOp(impl.InsReturn, 0)
	f := cFn("f", nil, 0, 0, back)
	wantFlaw(t, "no main", cCode(f), 4, 0, 0)
	wantFlaw(t, "another case", cCode(f, cFn("main_", nil, impl.TypeText, 0, cOf(2), cOp(impl.InsReturn, 1))), 4, 0, 0)
	wantFlaw(t, "main last", cCode(f, cReturning()), 0, 0, 0)
	for result := range 11 {
		ins := []impl.Ins{back}
		if result != 0 {
			ins = []impl.Ins{cOf(result), cOp(impl.InsReturn, 1)}
		}
		wantRight(t, result, cCode(f, cFn("main", nil, result, 0, ins...)), result == impl.TypeText, 4, 0, 0)
		wantRight(t, result, cCode(cFn("main", nil, result, 3, ins...), f), result == impl.TypeText, 4, 0, 0)
	}
	wantFlaw(t, "with a parameter", cCode(cFn("main", []int{impl.TypeText}, impl.TypeText, 1, cOf(2), cOp(impl.InsReturn, 1))), 4, 0, 0)
}

// The first of several faults is told: by its code, then by its function, then by its place.
func TestCodeFirst(t *testing.T) {
	back, drop, wrong := cOp(impl.InsReturn, 0), cOp(impl.InsDrop, 0), cOp(99, 0)
	unfit := cFn("unfit", nil, 0, 0, cOp(impl.InsStep, 0), drop, drop, back)
	odd := cFn("odd", nil, 0, 0, back, back, wrong, wrong)
	other := cFn("other", nil, 0, 0, wrong, back)
	none, less := cFn("none", nil, 0, 0), cFn("less", []int{1}, 0, 0, wrong)
	for _, c := range []struct {
		c    impl.Code
		want []int
	}{
		{cCode(unfit, odd, none, less), []int{2, 2, 0}},
		{cCode(unfit, odd, less, none), []int{2, 2, 0}},
		{cCode(less, none, odd), []int{2, 0, 0}},
		{cBeside(unfit, odd, other), []int{3, 2, 2}},
		{cBeside(other, odd, unfit), []int{3, 1, 0}},
		{cCode(unfit, odd), []int{3, 1, 2}},
		{cCode(unfit), []int{4, 0, 0}},
		{cBeside(unfit), []int{5, 1, 1}},
		{cCode(unfit, cReturning()), []int{5, 0, 1}},
		{cCode(unfit, cMain(0, drop)), []int{5, 0, 1}},
		{cCode(cMain(0, drop), unfit), []int{5, 0, 0}},
		{cCode(cFn("main", nil, 0, 0, drop), unfit), []int{4, 0, 0}},
	} {
		wantFlaw(t, c.c, c.c, c.want...)
	}
}

// wantTakes: what an instruction does with these types on the stack: it puts these, or it is unfit.
func wantTakes(t *testing.T, ins impl.Ins, result int, lie []int, fit bool, left []int) {
	t.Helper()
	f := cFn("f", nil, result, 1)
	for _, typ := range lie {
		f.Ins = append(f.Ins, cOf(typ))
	}
	at := len(lie)
	// It goes on round and round behind the instruction, whatever lies there.
	f.Ins = append(f.Ins, ins, cOp(impl.InsJump, at+1))
	c := cBeside(f, cFn("g", []int{1, 2, 3}, 10, 3, cOf(10), cOp(impl.InsReturn, 1)), cFn("h", []int{4}, 0, 1, cOp(impl.InsReturn, 0)))
	wantRight(t, []any{ins, lie}, c, fit, 5, 1, at)
	goes := ins.Op != impl.InsReturn && ins.Op != impl.InsFail
	shape := impl.Shapes(c, 1)[at+1]
	switch {
	case !goes && shape.State != 0, goes && !fit && shape.State != 2, goes && fit && shape.State != 1:
		t.Errorf("%v with %v: state %d", ins, lie, shape.State)
	case goes && fit && !slices.Equal(shape.Stack, left):
		t.Errorf("%v with %v leaves %v, want %v", ins, lie, shape.Stack, left)
	}
}

// wantTakesAll: each way in which so many types can lie there; gives says what is put of them, and whether they fit. There may be more below, but not less.
func wantTakesAll(t *testing.T, ins impl.Ins, result, count int, gives func(kids []int) ([]int, bool)) {
	t.Helper()
	for number := range int(math.Pow10(count)) {
		var kids []int
		for range count {
			kids = append(kids, number%10+1)
			number /= 10
		}
		put, fit := gives(kids)
		wantTakes(t, ins, result, kids, fit, put)
		if count == 0 || kids[0] < 4 || fit {
			wantTakes(t, ins, result, append([]int{7, 1}, kids...), fit, append([]int{7, 1}, put...))
		}
		if fit && count > 0 {
			wantTakes(t, ins, result, kids[1:], false, nil)
			wantTakes(t, ins, result, nil, false, nil)
		}
	}
}

// byRow gives what a row of chapter 3's table does.
func byRow(rows string) func(kids []int) ([]int, bool) {
	return func(kids []int) ([]int, bool) {
		gives := rowGives(rows, kids)
		return []int{gives}, gives != impl.TypeNone
	}
}

// only takes just these types and puts these.
func only(takes []int, puts ...int) func(kids []int) ([]int, bool) {
	return func(kids []int) ([]int, bool) { return puts, slices.Equal(kids, takes) }
}

func TestCodeTakesValues(t *testing.T) {
	for typ := 1; typ <= 10; typ++ {
		wantTakesAll(t, cOf(typ), 0, 0, only(nil, typ))
	}
	for op := impl.OpNeg; op <= impl.OpInv; op++ {
		wantTakesAll(t, cOp(impl.InsUn, op), 0, 1, byRow(unRows[op]))
	}
	for op := impl.OpSame; op <= impl.OpRight; op++ {
		wantTakesAll(t, cOp(impl.InsBin, op), 0, 2, byRow(binRows[op]))
	}
	for to := impl.TypeU8; to <= impl.TypeI64; to++ {
		wantTakesAll(t, cOp(impl.InsConv, to), 0, 1, func(kids []int) ([]int, bool) { return []int{to}, kids[0] >= impl.TypeU8 })
	}
	for op := impl.BuiltRead; op <= impl.BuiltNum; op++ {
		wantTakesAll(t, cOp(impl.InsBuilt, op), 0, builtKids[op], byRow(builtRows[op]))
	}
}

func TestCodeTakesOthers(t *testing.T) {
	some := func([]int) ([]int, bool) { return nil, true }
	wantTakesAll(t, cOp(impl.InsStore, 0), 0, 1, some)
	wantTakesAll(t, cOp(impl.InsDrop, 0), 0, 1, some)
	wantTakesAll(t, cOp(impl.InsStep, 0), 0, 0, some)
	wantTakesAll(t, cOp(impl.InsFail, 0), 0, 1, only([]int{2}))
	wantTakesAll(t, cOp(impl.InsSay, 0), 0, 1, only([]int{2}))
	wantTakesAll(t, cOp(impl.InsWrite, 0), 0, 2, only([]int{2, 2}))
	wantTakesAll(t, cOp(impl.InsCall, 0), 0, 0, only(nil, 2))
	wantTakesAll(t, cOp(impl.InsCall, 2), 0, 3, only([]int{1, 2, 3}, 10))
	wantTakesAll(t, cOp(impl.InsCall, 3), 0, 1, only([]int{4}))
	wantTakesAll(t, cOp(impl.InsReturn, 0), 0, 0, some)
	for result := 1; result <= 10; result++ {
		wantTakesAll(t, cOp(impl.InsReturn, 1), result, 1, only([]int{result}))
	}
	for typ := 1; typ <= 10; typ++ {
		wantTakes(t, cOp(impl.InsUnless, 2), 0, []int{typ}, typ == 1, nil)
		wantTakes(t, cOp(impl.InsUnless, 4), 0, []int{9, 2, typ}, typ == 1, []int{9, 2})
	}
	wantTakes(t, cOp(impl.InsUnless, 1), 0, nil, false, nil)
	wantTakes(t, cOp(impl.InsJump, 1), 0, nil, true, nil)
	wantTakes(t, cOp(impl.InsJump, 3), 0, []int{9, 2}, true, []int{9, 2})
	wantTakes(t, cOp(impl.InsLoad, 0), 0, nil, false, nil)
}

// loops goes round and round at the place behind some instructions.
func loops(ins []impl.Ins, behind ...impl.Ins) []impl.Ins {
	all := append(ins, behind...)
	return append(all, cOp(impl.InsJump, len(all)))
}

func TestCodeMaxStack(t *testing.T) {
	g, h := cFn("g", nil, 10, 0, cOf(10), cOp(impl.InsReturn, 1)), cFn("h", nil, 0, 0, cOp(impl.InsReturn, 0))
	for _, c := range []struct {
		lie    int
		behind []impl.Ins
		fit    bool
	}{
		{599, nil, true}, {600, nil, true},
		{599, []impl.Ins{cOf(1)}, true}, {600, []impl.Ins{cOf(1)}, false}, {600, []impl.Ins{cOf(2)}, false},
		{599, []impl.Ins{cOp(impl.InsLoad, 0)}, true}, {600, []impl.Ins{cOp(impl.InsLoad, 0)}, false},
		{599, []impl.Ins{cOp(impl.InsCall, 1)}, true}, {600, []impl.Ins{cOp(impl.InsCall, 1)}, false},
		{600, []impl.Ins{cOp(impl.InsCall, 2)}, true},
		{599, []impl.Ins{cOp(impl.InsBuilt, impl.BuiltArg)}, true}, {600, []impl.Ins{cOp(impl.InsBuilt, impl.BuiltArg)}, false},
		{600, []impl.Ins{cOp(impl.InsUn, impl.OpNeg)}, true}, {600, []impl.Ins{cOp(impl.InsBin, impl.OpAdd)}, true},
		{600, []impl.Ins{cOp(impl.InsConv, impl.TypeU8)}, true}, {600, []impl.Ins{cOp(impl.InsBuilt, impl.BuiltDec)}, true},
		{600, []impl.Ins{cOp(impl.InsStep, 0)}, true}, {600, []impl.Ins{cOp(impl.InsStore, 0)}, true},
		{600, []impl.Ins{cOp(impl.InsDrop, 0), cOf(1)}, true},
	} {
		f := cFn("main", nil, impl.TypeText, 1, loops(append([]impl.Ins{cOf(10), cOp(impl.InsStore, 0)}, cTimes(c.lie, cOf(10))...), c.behind...)...)
		wantRight(t, c, cCode(f, g, h), c.fit, 5, 0, c.lie+2)
	}
	wantFlaw(t, "601", cCode(cMain(0, loops(cTimes(601, cOf(3)))...)), 5, 0, 600)
	wantFlaw(t, "700", cCode(cMain(0, loops(cTimes(700, cOf(3)))...)), 5, 0, 600)
	wantFlaw(t, "dropped at once", cCode(cMain(0, loops(cTimes(601, cOf(3)), cTimes(601, cOp(impl.InsDrop, 0))...)...)), 5, 0, 600)
	deep := append(cTimes(599, cOf(3)), cOf(2), cOp(impl.InsReturn, 1))
	wantFlaw(t, "a result above others", cCode(cMain(0, deep...)), 0, 0, 0)
}

// The number of instructions is no place at which something could go on.
func TestCodeGoesOnPastTheEnd(t *testing.T) {
	b, x, n := cOf(1), cOf(2), cOf(10)
	for _, c := range []struct {
		ins []impl.Ins
		fit bool
	}{
		{[]impl.Ins{x}, false}, {[]impl.Ins{cOp(impl.InsLoad, 0)}, false},
		{[]impl.Ins{x, cOp(impl.InsStore, 0)}, false}, {[]impl.Ins{x, cOp(impl.InsDrop, 0)}, false},
		{[]impl.Ins{n, cOp(impl.InsUn, 1)}, false}, {[]impl.Ins{n, n, cOp(impl.InsBin, 3)}, false},
		{[]impl.Ins{n, cOp(impl.InsConv, 3)}, false}, {[]impl.Ins{cOp(impl.InsBuilt, 5)}, false},
		{[]impl.Ins{cOp(impl.InsCall, 0)}, false}, {[]impl.Ins{x, x, cOp(impl.InsWrite, 0)}, false},
		{[]impl.Ins{x, cOp(impl.InsSay, 0)}, false}, {[]impl.Ins{cOp(impl.InsStep, 0)}, false},
		{[]impl.Ins{b, cOp(impl.InsUnless, 2)}, false}, {[]impl.Ins{cOp(impl.InsStep, 0), b, cOp(impl.InsUnless, 2)}, false},
		{[]impl.Ins{cOp(impl.InsJump, 1)}, false}, {[]impl.Ins{cOp(impl.InsStep, 0), cOp(impl.InsJump, 2)}, false},
		{[]impl.Ins{cOp(impl.InsJump, 0)}, true}, {[]impl.Ins{cOp(impl.InsStep, 0), cOp(impl.InsJump, 0)}, true},
		{[]impl.Ins{x, cOp(impl.InsReturn, 1)}, true}, {[]impl.Ins{x, cOp(impl.InsFail, 0)}, true},
	} {
		wantRight(t, c.ins, cBeside(cFn("f", nil, impl.TypeText, 1, append([]impl.Ins{x, cOp(impl.InsStore, 0), cOp(impl.InsJump, 3)}, moved(c.ins, 3)...)...)), c.fit, 5, 1, 3+len(c.ins)-1)
	}
	wantFlaw(t, "unless at the end, and back", cCode(cMain(0, b, cOp(impl.InsUnless, 0))), 5, 0, 0)
	end := cCode(cMain(0, b, cOp(impl.InsUnless, 4), x, cOp(impl.InsReturn, 1)))
	wantFlaw(t, "unless at the end", end, 5, 0, 1)
	wantShapes(t, end, 0, "[1 [] []] [1 [] [1]] [2 [] []] [2 [] []]")
}

// moved has all places that number higher.
func moved(list []impl.Ins, by int) []impl.Ins {
	list = slices.Clone(list)
	for i := range list {
		if list[i].Op == impl.InsJump || list[i].Op == impl.InsUnless {
			list[i].A += by
		}
	}
	return list
}

// wantShapes: all of a function's shapes, each as its state, slots and stack are written.
func wantShapes(t *testing.T, c impl.Code, fn int, want string) {
	t.Helper()
	checkCode(t, c)
	if got := shown(impl.Shapes(c, fn)); got != want {
		t.Errorf("%v:\n%s, want\n%s", c.Fns[fn].Ins, got, want)
	}
}

func shown(shapes []impl.Shape) string {
	var all []string
	for _, s := range shapes {
		all = append(all, fmt.Sprintf("[%d %v %v]", s.State, s.Slots, s.Stack))
	}
	return strings.Join(all, " ")
}

func TestShapesOneWay(t *testing.T) {
	back := cOp(impl.InsReturn, 0)
	f := cFn("f", []int{1, 10}, 0, 4, cOp(impl.InsLoad, 1), cOp(impl.InsStore, 3), cOf(2), cOp(impl.InsStore, 0), cOp(impl.InsLoad, 3), cOp(impl.InsLoad, 0), back)
	wantShapes(t, cBeside(f), 1, "[1 [1 10 0 0] []] [1 [1 10 0 0] [10]] [1 [1 10 0 10] []] [1 [1 10 0 10] [2]] [1 [2 10 0 10] []] [1 [2 10 0 10] [10]] [1 [2 10 0 10] [10 2]]")
	f = cFn("f", []int{1, 2, 3, 4, 5, 6, 7, 8}, 0, 8, back)
	wantShapes(t, cBeside(f), 1, "[1 [1 2 3 4 5 6 7 8] []]")
	wantShapes(t, cBeside(f), 0, "[1 [] []] [1 [] [2]]")
	f = cFn("f", nil, 0, 2, cOf(1), cOf(2), cOf(3), cOp(impl.InsDrop, 0), cOp(impl.InsStore, 1), cOp(impl.InsStore, 0), back)
	wantShapes(t, cBeside(f), 1, "[1 [0 0] []] [1 [0 0] [1]] [1 [0 0] [1 2]] [1 [0 0] [1 2 3]] [1 [0 0] [1 2]] [1 [0 2] [1]] [1 [1 2] []]")
}

// A slot gives back the type that it has, whichever it is.
func TestCodeLoads(t *testing.T) {
	for typ := 1; typ <= 10; typ++ {
		for result := 1; result <= 10; result++ {
			list := []impl.Ins{cOp(impl.InsLoad, 0), cOp(impl.InsReturn, 1)}
			wantRight(t, []int{typ, result}, cBeside(cFn("f", []int{typ}, result, 1, list...)), typ == result, 5, 1, 1)
			list = append([]impl.Ins{cOf(typ), cOp(impl.InsStore, 0)}, list...)
			wantRight(t, []int{typ, result}, cBeside(cFn("f", []int{result}, result, 1, list...)), typ == result, 5, 1, 3)
		}
		wantFlaw(t, typ, cBeside(cFn("f", []int{typ}, typ, 2, cOp(impl.InsLoad, 1), cOp(impl.InsReturn, 1))), 5, 1, 0)
	}
}

// Places that nothing leads to have no shape, and are never unfit, whatever stands there; what they would lead to plays no part.
func TestShapesOfNoWay(t *testing.T) {
	back, drop := cOp(impl.InsReturn, 0), cOp(impl.InsDrop, 0)
	for _, unfit := range []impl.Ins{drop, cOp(impl.InsLoad, 0), cOp(impl.InsBin, 9), cOp(impl.InsJump, 4), cOp(impl.InsUnless, 4), cOp(impl.InsCall, 0), cOp(impl.InsFail, 0)} {
		c := cBeside(cFn("f", []int{}, 0, 1, cOf(10), back, unfit, cOf(3)))
		wantFlaw(t, unfit, c, 0, 0, 0)
		wantShapes(t, c, 1, "[1 [0] []] [1 [0] [10]] [0 [] []] [0 [] []]")
		c = cBeside(cFn("f", []int{}, 0, 1, cOf(2), cOp(impl.InsFail, 0), unfit, drop))
		wantShapes(t, c, 1, "[1 [0] []] [1 [0] [2]] [0 [] []] [0 [] []]")
	}
	jump := cBeside(cFn("f", []int{1}, 0, 1, cOp(impl.InsJump, 3), drop, cOp(impl.InsJump, 0), cOp(impl.InsLoad, 0), drop, back, cOf(3), cOp(impl.InsJump, 4)))
	wantFlaw(t, "led by no way", jump, 0, 0, 0)
	wantShapes(t, jump, 1, "[1 [1] []] [0 [] []] [0 [] []] [1 [1] []] [1 [1] [1]] [1 [1] []] [0 [] []] [0 [] []]")
	round := cBeside(cFn("f", nil, 0, 0, cOp(impl.InsJump, 0), cOp(impl.InsJump, 2), cOp(impl.InsJump, 1)))
	wantFlaw(t, "round", round, 0, 0, 0)
	wantShapes(t, round, 1, "[1 [] []] [0 [] []] [0 [] []]")
}

// Two ways come together at the place behind: the first ones stand behind InsUnless, the others where it goes if the bool is false.
func twoWays(slots int, first, other []impl.Ins, behind ...impl.Ins) impl.Code {
	list := []impl.Ins{cOf(1), cOp(impl.InsUnless, 3+len(first))}
	list = append(list, first...)
	list = append(list, cOp(impl.InsJump, 3+len(first)+len(other)))
	list = append(list, other...)
	return cBeside(cFn("f", nil, 0, slots, append(list, behind...)...))
}

func TestShapesOfTwoWays(t *testing.T) {
	back, store := cOp(impl.InsReturn, 0), cOp(impl.InsStore, 0)
	for _, c := range []struct {
		first, other []impl.Ins
		want         string
	}{
		{nil, nil, "[1 [0 0] []]"},
		{[]impl.Ins{cOf(3)}, []impl.Ins{cOf(3)}, "[1 [0 0] [3]]"},
		{[]impl.Ins{cOf(3)}, []impl.Ins{cOf(4)}, "[2 [] []]"},
		{[]impl.Ins{cOf(3)}, nil, "[2 [] []]"},
		{nil, []impl.Ins{cOf(3)}, "[2 [] []]"},
		{[]impl.Ins{cOf(3), cOf(4)}, []impl.Ins{cOf(4), cOf(3)}, "[2 [] []]"},
		{[]impl.Ins{cOf(3), cOf(4)}, []impl.Ins{cOf(4)}, "[2 [] []]"},
		{[]impl.Ins{cOf(3), cOf(4)}, []impl.Ins{cOf(3)}, "[2 [] []]"},
		{[]impl.Ins{cOf(3), cOf(4), cOp(impl.InsDrop, 0)}, []impl.Ins{cOf(3)}, "[1 [0 0] [3]]"},
		{[]impl.Ins{cOf(3), store}, []impl.Ins{cOf(3), store}, "[1 [3 0] []]"},
		{[]impl.Ins{cOf(3), store}, []impl.Ins{cOf(4), store}, "[1 [0 0] []]"},
		{[]impl.Ins{cOf(3), store}, nil, "[1 [0 0] []]"},
		{nil, []impl.Ins{cOf(3), store}, "[1 [0 0] []]"},
		{[]impl.Ins{cOf(3), store, cOf(5), cOp(impl.InsStore, 1)}, []impl.Ins{cOf(4), store, cOf(5), cOp(impl.InsStore, 1)}, "[1 [0 5] []]"},
		{[]impl.Ins{cOf(3), store, cOf(4), store}, []impl.Ins{cOf(4), store}, "[1 [4 0] []]"},
		{[]impl.Ins{cOf(3), store, cOf(7)}, []impl.Ins{cOf(4), store, cOf(7)}, "[1 [0 0] [7]]"},
		{[]impl.Ins{cOf(3), store, cOf(7)}, []impl.Ins{cOf(4), store, cOf(8)}, "[2 [] []]"},
		{[]impl.Ins{cOp(impl.InsDrop, 0)}, nil, "[2 [] []]"},
		{nil, []impl.Ins{cOp(impl.InsLoad, 0), cOp(impl.InsDrop, 0)}, "[2 [] []]"},
	} {
		code := twoWays(2, c.first, c.other, back)
		shapes := impl.Shapes(code, 1)
		if got := shown(shapes[len(shapes)-1:]); got != c.want {
			t.Errorf("%v and %v: %s, want %s", c.first, c.other, got, c.want)
		}
		checkCode(t, code)
	}
	// What is not known may lie there, but can't be loaded; it is known again once it has been stored.
	u8, u16 := []impl.Ins{cOf(3), store}, []impl.Ins{cOf(4), store}
	wantFlaw(t, "not loaded", twoWays(1, u8, u16, back), 0, 0, 0)
	wantFlaw(t, "loaded", twoWays(1, u8, u16, cOp(impl.InsLoad, 0), back), 5, 1, 7)
	wantFlaw(t, "loaded, the same", twoWays(1, u8, u8, cOp(impl.InsLoad, 0), back), 0, 0, 0)
	wantFlaw(t, "stored and loaded", twoWays(1, u8, u16, cOf(2), store, cOp(impl.InsLoad, 0), back), 0, 0, 0)
	wantFlaw(t, "a clash", twoWays(0, []impl.Ins{cOf(3)}, nil, cOp(impl.InsStep, 0), back), 5, 1, 4)
	wantFlaw(t, "a clash where it returns", twoWays(0, []impl.Ins{cOf(3)}, nil, back), 5, 1, 4)
}

func TestShapesOfLoops(t *testing.T) {
	back, step := cOp(impl.InsReturn, 0), cOp(impl.InsStep, 0)
	for _, c := range []struct {
		what string
		f    impl.Fn
		flaw []int
		want string
	}{
		{"the same again", cFn("f", []int{1}, 0, 1, cOp(impl.InsLoad, 0), cOp(impl.InsUnless, 3), cOp(impl.InsJump, 0), back), []int{0, 0, 0},
			"[1 [1] []] [1 [1] [1]] [1 [1] []] [1 [1] []]"},
		{"one more each time", cFn("f", nil, 0, 0, step, cOf(3), cOp(impl.InsJump, 1)), []int{5, 1, 1},
			"[1 [] []] [2 [] []] [2 [] []]"},
		{"one less each time", cFn("f", nil, 0, 0, cOf(3), cOf(3), cOp(impl.InsDrop, 0), cOp(impl.InsJump, 2)), []int{5, 1, 2},
			"[1 [] []] [1 [] [3]] [2 [] []] [2 [] []]"},
		{"a parameter has another type at place 0", cFn("f", []int{3}, 0, 1, step, cOf(4), cOp(impl.InsStore, 0), cOp(impl.InsJump, 0)), []int{0, 0, 0},
			"[1 [0] []] [1 [0] []] [1 [0] [4]] [1 [4] []]"},
		{"and is loaded there", cFn("f", []int{3}, 0, 1, cOp(impl.InsLoad, 0), cOp(impl.InsDrop, 0), cOf(4), cOp(impl.InsStore, 0), cOp(impl.InsJump, 0)), []int{5, 1, 0},
			"[2 [] []] [2 [] []] [2 [] []] [2 [] []] [2 [] []]"},
		{"the same type is stored anew", cFn("f", []int{3}, 0, 1, cOp(impl.InsLoad, 0), cOp(impl.InsUn, 1), cOp(impl.InsStore, 0), cOp(impl.InsJump, 0)), []int{0, 0, 0},
			"[1 [3] []] [1 [3] [3]] [1 [3] [3]] [1 [3] []]"},
		{"an unfit place leads to a fit one in front of it", cFn("f", nil, 0, 0, step, step, step, cOp(impl.InsDrop, 0), cOp(impl.InsJump, 1)), []int{5, 1, 1},
			"[1 [] []] [2 [] []] [2 [] []] [2 [] []] [2 [] []]"},
		{"an unfit place returns", cFn("f", nil, 3, 0, cOf(1), cOp(impl.InsUnless, 3), cOp(impl.InsJump, 0), cOp(impl.InsReturn, 1), step), []int{5, 1, 3},
			"[1 [] []] [1 [] [1]] [1 [] []] [1 [] []] [0 [] []]"},
		{"it takes two rounds", cFn("f", []int{1, 3, 3}, 0, 3,
			cOp(impl.InsLoad, 0), cOp(impl.InsUnless, 6), cOp(impl.InsLoad, 1), cOp(impl.InsStore, 2), step, cOp(impl.InsJump, 0), cOf(4), cOp(impl.InsStore, 1), cOp(impl.InsJump, 0)), []int{5, 1, 0},
			"[2 [] []] [2 [] []] [2 [] []] [2 [] []] [2 [] []] [2 [] []] [2 [] []] [2 [] []] [2 [] []]"},
		{"a loop in a loop", cFn("f", []int{1, 3}, 0, 3, cOf(5), cOp(impl.InsStore, 2), cOp(impl.InsLoad, 0), cOp(impl.InsUnless, 8), cOf(6), cOp(impl.InsStore, 1), cOp(impl.InsLoad, 0), cOp(impl.InsUnless, 2), cOf(2), cOp(impl.InsFail, 0)), []int{0, 0, 0},
			"[1 [1 3 0] []] [1 [1 3 0] [5]] [1 [1 0 5] []] [1 [1 0 5] [1]] [1 [1 0 5] []] [1 [1 0 5] [6]] [1 [1 6 5] []] [1 [1 6 5] [1]] [1 [1 0 5] []] [1 [1 0 5] [2]]"},
	} {
		wantFlaw(t, c.what, cBeside(c.f), c.flaw...)
		wantShapes(t, cBeside(c.f), 1, c.want)
	}
}

// An unfit place goes on by its instruction, and so does one of which the types do not go together.
func TestShapesUnfitGoesOn(t *testing.T) {
	for _, ins := range []impl.Ins{
		cOp(impl.InsLoad, 0), cOp(impl.InsStore, 0), cOp(impl.InsDrop, 0), cOp(impl.InsUn, 1), cOp(impl.InsBin, 3), cOp(impl.InsConv, 3),
		cOp(impl.InsBuilt, 1), cOp(impl.InsCall, 2), cOp(impl.InsWrite, 0), cOp(impl.InsSay, 0),
	} {
		c := cBeside(cFn("f", nil, 0, 1, ins, cOp(impl.InsJump, 1)), cFn("g", []int{1}, 0, 1, cOp(impl.InsReturn, 0)))
		wantFlaw(t, ins, c, 5, 1, 0)
		wantShapes(t, c, 1, "[1 [0] []] [2 [] []]")
	}
	c := cBeside(cFn("f", nil, 0, 0, cOp(impl.InsUnless, 2), cOp(impl.InsReturn, 0), cOp(impl.InsJump, 4), cOf(1), cOf(2), cOp(impl.InsFail, 0), cOf(1)))
	wantFlaw(t, "unless", c, 5, 1, 0)
	wantShapes(t, c, 1, "[1 [] []] [2 [] []] [2 [] []] [0 [] []] [2 [] []] [2 [] []] [0 [] []]")
	c = cBeside(cFn("f", nil, 0, 0, cOf(3), cOp(impl.InsFail, 0), cOf(3)))
	wantFlaw(t, "fail", c, 5, 1, 1)
	wantShapes(t, c, 1, "[1 [] []] [1 [] [3]] [0 [] []]")
	// The last place leads back, though it goes on past the end as well.
	c = cBeside(cFn("f", nil, 0, 0, cOf(1), cOp(impl.InsJump, 4), cOp(impl.InsReturn, 0), cOf(2), cOp(impl.InsUnless, 2)))
	wantFlaw(t, "unless at the end", c, 5, 1, 2)
	wantShapes(t, c, 1, "[1 [] []] [1 [] [1]] [2 [] []] [0 [] []] [1 [] [1]]")
}

// Shapes are nothing of codes that are not right and of numbers that are no function's; an unfit place does not matter, in whatever function it is.
func TestShapesOfOthers(t *testing.T) {
	back := cOp(impl.InsReturn, 0)
	fit, unfit := cFn("f", nil, 0, 0, back), cFn("g", nil, 0, 0, cOp(impl.InsDrop, 0), back)
	for _, c := range []impl.Code{
		{}, cCode(fit), cBeside(fit, fit), cBeside(fit, cFn("x", nil, 0, 0)), cBeside(fit, cFn("x", nil, 0, 0, back, cOp(17, 0))),
	} {
		for fn := -1; fn <= len(c.Fns)+1; fn++ {
			if s := impl.Shapes(c, fn); len(s) != 0 {
				t.Errorf("%v: %v", c, s)
			}
		}
	}
	c := cBeside(fit, unfit)
	for _, fn := range []int{math.MinInt, -1, 3, 4, math.MaxInt} {
		if s := impl.Shapes(c, fn); len(s) != 0 {
			t.Errorf("%d: %v", fn, s)
		}
	}
	wantShapes(t, c, 0, "[1 [] []] [1 [] [2]]")
	wantShapes(t, c, 1, "[1 [] []]")
	wantShapes(t, c, 2, "[1 [] []] [2 [] []]")
}

// A way of MaxIns places, with all slots and a full stack, round which slot after slot loses its type.
func TestShapesOfLongWays(t *testing.T) {
	ins := cTimes(600, cOf(3))
	for slot := range 200 {
		at := len(ins)
		ins = append(ins, cOp(impl.InsDrop, 0), cOf(1), cOp(impl.InsUnless, at+6), cOf(3), cOp(impl.InsStore, slot), cOp(impl.InsJump, at+8), cOf(4), cOp(impl.InsStore, slot), cOf(3))
	}
	for len(ins) < impl.MaxIns-3 {
		ins = append(ins, cOp(impl.InsStep, 0))
	}
	ins = append(ins, cOp(impl.InsDrop, 0), cOf(2), cOp(impl.InsReturn, 1))
	c := cCode(cMain(200, ins...))
	if a, b, d := impl.CheckCode(c); a != 0 {
		t.Fatal(a, b, d)
	}
	s := impl.Shapes(c, 0)
	last := s[len(s)-1]
	if len(s) != impl.MaxIns || last.State != 1 || len(last.Stack) != 600 || !slices.Equal(last.Slots, make([]int, 200)) {
		t.Errorf("%d %v", len(s), last)
	}
}
