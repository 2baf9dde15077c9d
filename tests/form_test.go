package tests

import (
	"math"
	"slices"
	"strconv"
	"strings"
	"testing"

	"loop.example/kilnmill/impl"
)

// wantForm: the form of a main, behind its Result.
func wantForm(t *testing.T, slots int, list []impl.Ins, want string) {
	t.Helper()
	c := cCode(cMain(slots, list...))
	if got := checkCode(t, c); got != [3]int{} {
		t.Fatalf("%v: %v", list, got)
	}
	want = "mill1\x01\x04main\x00\x02" + want
	if got := impl.WriteCode(c); got != want {
		t.Errorf("%v: %q, want %q", list, got, want)
	}
	if read, ok := impl.ReadCode(want); !ok || !sameCode(read, c) {
		t.Errorf("%q: %v %v", want, read, ok)
	}
}

func TestFormOfEachIns(t *testing.T) {
	x, n, back := cPush(vText("")), cPush(vI64(0)), cOp(impl.InsReturn, 1)
	wantForm(t, 0, []impl.Ins{x, back}, "\x00\x02\x01\x02\x00\x0c\x01")
	wantForm(t, 0, []impl.Ins{cPush(vText("a\x00\xff")), back}, "\x00\x02\x01\x02\x03a\x00\xff\x0c\x01")
	wantForm(t, 2, []impl.Ins{x, cOp(impl.InsStore, 1), cOp(impl.InsLoad, 1), back}, "\x02\x04\x01\x02\x00\x03\x01\x02\x01\x0c\x01")
	wantForm(t, 0, []impl.Ins{n, cOp(impl.InsUn, 3), cOp(impl.InsDrop, 0), x, cOp(impl.InsFail, 0)}, "\x00\x05\x01\x0a\x00\x05\x03\x04\x01\x02\x00\x0d")
	wantForm(t, 0, []impl.Ins{n, n, cOp(impl.InsBin, 18), cOp(impl.InsConv, 3), cOp(impl.InsBuilt, 11), back}, "\x00\x06\x01\x0a\x00\x01\x0a\x00\x06\x12\x07\x03\x08\x0b\x0c\x01")
	wantForm(t, 0, []impl.Ins{cOp(impl.InsStep, 0), cOp(impl.InsCall, 0), x, cOp(impl.InsWrite, 0), cOp(impl.InsJump, 0)}, "\x00\x05\x10\x09\x00\x01\x02\x00\x0e\x0a\x00")
	wantForm(t, 0, []impl.Ins{cPush(vBool(true)), cOp(impl.InsUnless, 0), x, cOp(impl.InsSay, 0), cOp(impl.InsJump, 4)}, "\x00\x05\x01\x01\x01\x0b\x00\x01\x02\x00\x0f\x0a\x04")
}

func TestFormOfNumbers(t *testing.T) {
	for _, c := range []struct {
		v    impl.Value
		want string
	}{
		{vBool(false), "\x01\x00"}, {vBool(true), "\x01\x01"},
		{vInt(impl.TypeU8, 127), "\x03\x7f"}, {vInt(impl.TypeU8, 128), "\x03\x80\x01"}, {vInt(impl.TypeU8, 255), "\x03\xff\x01"},
		{vInt(impl.TypeU16, 16383), "\x04\xff\x7f"}, {vInt(impl.TypeU16, 16384), "\x04\x80\x80\x01"}, {vInt(impl.TypeU16, 65535), "\x04\xff\xff\x03"},
		{vInt(impl.TypeU32, math.MaxUint32), "\x05\xff\xff\xff\xff\x0f"},
		{vInt(impl.TypeU64, -1), "\x06\xff\xff\xff\xff\xff\xff\xff\xff\xff\x01"},
		{vInt(impl.TypeU64, math.MinInt64), "\x06\x80\x80\x80\x80\x80\x80\x80\x80\x80\x01"},
		{vInt(impl.TypeI8, -128), "\x07\x80\xff\xff\xff\xff\xff\xff\xff\xff\x01"}, {vInt(impl.TypeI8, 127), "\x07\x7f"},
		{vInt(impl.TypeI16, -1), "\x08\xff\xff\xff\xff\xff\xff\xff\xff\xff\x01"},
		{vInt(impl.TypeI32, math.MaxInt32), "\x09\xff\xff\xff\xff\x07"},
		{vI64(math.MaxInt64), "\x0a\xff\xff\xff\xff\xff\xff\xff\xff\x7f"}, {vI64(math.MinInt64), "\x0a\x80\x80\x80\x80\x80\x80\x80\x80\x80\x01"},
	} {
		wantForm(t, 0, []impl.Ins{cPush(c.v), cOp(impl.InsDrop, 0), cOp(impl.InsJump, 2)}, "\x00\x03\x01"+c.want+"\x04\x0a\x02")
	}
	for _, size := range []int{126, 127, 128, 129, 3000} {
		head := string([]byte{byte(size)})
		if size > 127 {
			head = string([]byte{byte(size) | 128, byte(size >> 7)})
		}
		wantForm(t, 0, []impl.Ins{cPush(vText(xs(size))), cOp(impl.InsReturn, 1)}, "\x00\x02\x01\x02"+head+xs(size)+"\x0c\x01")
	}
	wantForm(t, 200, []impl.Ins{cOf(1), cOp(impl.InsStore, 199), cOp(impl.InsJump, 2)}, "\xc8\x01\x03\x01\x01\x01\x03\xc7\x01\x0a\x02")
	for _, count := range []int{126, 127, 128, 16382, 16383, 49999} {
		number := func(n int) string {
			var form []byte
			for ; n > 127; n >>= 7 {
				form = append(form, byte(n)|128)
			}
			return string(append(form, byte(n)))
		}
		wantForm(t, 0, cTimes(count, cOp(impl.InsStep, 0), cOp(impl.InsJump, count)), "\x00"+number(count+1)+strings.Repeat("\x10", count)+"\x0a"+number(count))
	}
}

func TestFormOfFns(t *testing.T) {
	c := cCode(
		cFn("f", []int{10, 2}, 1, 3, cOf(1), cOp(impl.InsReturn, 1)),
		cReturning(),
		cFn(xs(30), []int{1, 2, 3, 4, 5, 6, 7, 8}, 0, 8, cOp(impl.InsReturn, 0)),
	)
	want := "mill1\x03\x01f\x02\x0a\x02\x01\x03\x02\x01\x01\x01\x0c\x01\x04main\x00\x02\x00\x02\x01\x02\x01x\x0c\x01\x1e" + xs(30) + "\x08\x01\x02\x03\x04\x05\x06\x07\x08\x00\x08\x01\x0c\x00"
	checkCode(t, c)
	if got := impl.WriteCode(c); got != want {
		t.Errorf("%q", got)
	}
	if read, ok := impl.ReadCode(want); !ok || !sameCode(read, c) {
		t.Errorf("%v %v", read, ok)
	}
	if got := checkCode(t, everyIns()); got != [3]int{} {
		t.Error(got)
	}
}

// sized is a code whose form has this many bytes.
func sized(t *testing.T, size int) impl.Code {
	t.Helper()
	var list []impl.Ins
	for range 66 {
		list = append(list, cPush(vText(xs(3000))), cOp(impl.InsDrop, 0))
	}
	list = append(list, cPush(vText(xs(2000))), cOp(impl.InsReturn, 1))
	last := &list[len(list)-2]
	last.Text = xs(2000 + size - len(formOf(modelPieces(cCode(cMain(0, list...))))))
	c := cCode(cMain(0, list...))
	if got := len(formOf(modelPieces(c))); got != size {
		t.Fatal(got)
	}
	return c
}

func TestFormMaxBytes(t *testing.T) {
	for _, size := range []int{199999, 200000, 200001, 200500} {
		c := sized(t, size)
		if got := checkCode(t, c); got != [3]int{} {
			t.Fatal(got)
		}
		form := formOf(modelPieces(c))
		got := impl.WriteCode(c)
		read, ok := impl.ReadCode(form)
		if size <= impl.MaxBytes && (got != form || !ok || !sameCode(read, c)) {
			t.Errorf("%d bytes: %d are written, read %v", size, len(got), ok)
		}
		if size > impl.MaxBytes && (got != "" || ok || len(read.Fns) > 0) {
			t.Errorf("%d bytes: %d are written, read %v", size, len(got), ok)
		}
	}
	// It would be far too long in all: 60 functions, each of many texts that share their memory.
	fns := []impl.Fn{cReturning()}
	list := append([]impl.Ins{cOp(impl.InsReturn, 0)}, cTimes(impl.MaxIns-1, cPush(vText(xs(3000))))...)
	for i := range 59 {
		fns = append(fns, cFn("f"+strconv.Itoa(i), nil, 0, 0, list...))
	}
	if a, b, d := impl.CheckCode(cCode(fns...)); a != 0 {
		t.Error(a, b, d)
	}
	if s := impl.WriteCode(cCode(fns...)); s != "" {
		t.Error(len(s))
	}
}

// No form: the code is not valid, whichever way.
func TestFormOfOthers(t *testing.T) {
	back := cOp(impl.InsReturn, 0)
	for _, c := range []impl.Code{
		{}, cBeside(cFn("let", nil, 0, 0, back)), cBeside(cFn("f", []int{0}, 0, 1, back)), cBeside(cFn("f", nil, 11, 0, back)), cBeside(cFn("f", nil, 0, 201, back)),
		cBeside(cFn("f", nil, 0, 0)), cBeside(cFn("f", nil, 0, 0, back, cOp(17, 0))), cBeside(cFn("f", nil, 0, 0, back, cOp(-1, 0))), cBeside(cFn("f", nil, 0, 0, back, cOp(4, 1))),
		cBeside(cFn("f", nil, 0, 0, back, cOp(impl.InsJump, -1))), cBeside(cFn("f", nil, 0, 0, back, cPush(vText(xs(3001))))), cBeside(cFn("f", nil, 0, 0, back, cPush(vInt(3, 256)))),
		cCode(cFn("f", nil, 0, 0, back)), cBeside(cFn("f", nil, 0, 0, cOp(impl.InsDrop, 0), back)), cBeside(cFn("f", nil, 0, 0, cOf(1))),
	} {
		if got := checkCode(t, c); got == [3]int{} {
			t.Errorf("%v is not valid", c)
		}
		if s := impl.WriteCode(c); s != "" {
			t.Errorf("%v: %q", c, s)
		}
		if isWritable(c) {
			form := formOf(modelPieces(c))
			if read, ok := impl.ReadCode(form); ok || len(read.Fns) > 0 {
				t.Errorf("%q is read as %v", form, read)
			}
		}
	}
}

// isWritable says whether each Op is one of the table, with no A where this has none: then there is a way to write the code.
func isWritable(c impl.Code) bool {
	for _, fn := range c.Fns {
		for _, ins := range fn.Ins {
			if ins.Op < 1 || ins.Op > 16 || usesOfA[ins.Op] == "no" && ins.A != 0 {
				return false
			}
		}
	}
	return true
}

func TestFormsUnread(t *testing.T) {
	const right = "mill1\x01\x04main\x00\x02\x00\x02\x01\x02\x01x\x0c\x01"
	if _, ok := impl.ReadCode(right); !ok {
		t.Fatal("this is one")
	}
	wide := "\xff\xff\xff\xff\xff\xff\xff\xff\xff"
	for _, s := range []string{
		"", "m", "mill", "mill1", "mill2" + right[5:], "Mill1" + right[5:], " " + right, right[1:], right + "\x00", right + " ", right + right, right + right[5:],
		// No function, more than there are, fewer than there are.
		"mill1\x00", "mill1\x00" + right[6:], "mill1\x02" + right[6:], "mill1\x3d" + right[6:], "mill1\xff\x01" + right[6:],
		// A needless byte, numbers of more than 64 bits, lengths past the end.
		"mill1\x81\x00" + right[6:], "mill1\x81\x80\x00" + right[6:], "mill1\x81\x80\x80\x80\x80\x80\x80\x80\x80\x00" + right[6:],
		"mill1\x81\x80\x80\x80\x80\x80\x80\x80\x80\x02" + right[6:], "mill1\x81\x80\x80\x80\x80\x80\x80\x80\x80\x80\x01" + right[6:], "mill1\x81\x80\x80\x80\x80\x80\x80\x80\x80\x80\x00" + right[6:],
		"mill1" + wide + "\x01", "mill1" + wide + "\x7f", "mill1" + wide + "\xff", "mill1" + wide, "mill1" + wide + wide + "\x01",
		"mill1\x01\x04mai", "mill1\x01\x05main", "mill1\x01" + wide + "\x01main", "mill1\x01\x80\x80\x80\x80\x80\x80\x80\x80\x80\x01main", "mill1\x01\x84\x00main" + right[11:],
		"mill1\x01\x04main" + wide + "\x01\x02\x00\x02\x01\x02\x01x\x0c\x01", "mill1\x01\x04main\x00\x02\x00" + wide + "\x01\x01\x02\x01x\x0c\x01",
		"mill1\x01\x04main\x00\x02\x00\x02\x01\x02" + wide + "\x01x\x0c\x01", "mill1\x01\x04main\x00\x02\x00\x02\x01\x02\x04x\x0c\x01", "mill1\x01\x04main\x00\x02\x00\x02\x01\x02\x03x\x0c\x01",
		// A code that is not valid: of each code but 1.
		"mill1\x01\x04mail" + right[11:], "mill1\x01\x04maiN" + right[11:], "mill1\x01\x04main\x00\x03" + right[13:], "mill1\x01\x04main\x00\x0b" + right[13:],
		"mill1\x01\x04main\x01\x02\x02\x01" + right[14:], "mill1\x01\x04main\x00\x02\xc9\x01" + right[14:], "mill1\x01\x04main\x00\x02\x00\x00",
		right[:len(right)-1] + "\x00", right[:len(right)-1] + "\x02", right[:len(right)-2] + "\x10\x10", right[:len(right)-2] + "\x11\x01", right[:len(right)-2] + "\x00\x01",
		"mill1\x01\x04main\x00\x02\x00\x02\x01\x00\x01\x0c\x01", "mill1\x01\x04main\x00\x02\x00\x02\x01\x0b\x01\x0c\x01", "mill1\x01\x04main\x00\x02\x00\x02\x01\x03\x80\x02\x0c\x01",
		// A bool that is 1 past 64 bits, an i8 that is not filled up with its sign.
		"mill1\x01\x04main\x00\x02\x00\x03\x01\x01\x02\x04\x0a\x02", "mill1\x01\x04main\x00\x02\x00\x03\x01\x07\x80\x01\x04\x0a\x02",
	} {
		if c, ok := impl.ReadCode(s); ok || len(c.Fns) != 0 {
			t.Errorf("%q is read as %v", s, c)
		}
		if _, ok := modelRead(s); ok {
			t.Errorf("%q should be none", s)
		}
	}
}

// marked is a list with room behind its end, in which marks lie.
func marked[T any](list []T, mark T) []T {
	room := append(slices.Clone(list), mark, mark, mark)
	return room[:len(list)]
}

// What is answered is new memory, and what was given stays as it is, up to the end of its room.
func TestCodeOwnMemory(t *testing.T) {
	odd := cOp(99, 99)
	c := cCode(cMain(2, cOf(1), cOp(impl.InsStore, 0), cPush(vText("hold")), cOp(impl.InsStore, 1), cOp(impl.InsLoad, 1), cOp(impl.InsReturn, 1)), cFn("other", []int{1, 2}, 0, 2, cOp(impl.InsReturn, 0)))
	for f := range c.Fns {
		c.Fns[f].Ins, c.Fns[f].Params = marked(c.Fns[f].Ins, odd), marked(c.Fns[f].Params, 99)
	}
	c.Fns = marked(c.Fns, cFn("mark", nil, 99, 99))
	before := formOf(modelPieces(c))
	impl.CheckCode(c)
	form := impl.WriteCode(c)
	for f := range c.Fns {
		again := shown(impl.Shapes(c, f))
		shapes := impl.Shapes(c, f)
		for i := range shapes {
			fill(shapes[i].Slots, 50+i)
			fill(shapes[i].Stack, 80+i)
		}
		for i, s := range shapes {
			if !isFilled(s.Slots, 50+i) || !isFilled(s.Stack, 80+i) {
				t.Errorf("function %d, place %d: shared", f, i)
			}
		}
		if got := shown(impl.Shapes(c, f)); got != again {
			t.Errorf("%s, then %s", again, got)
		}
	}
	read, ok := impl.ReadCode(form)
	if !ok || form != before || formOf(modelPieces(c)) != before {
		t.Error("changed")
	}
	for f, fn := range c.Fns {
		if fn.Ins[:len(fn.Ins)+3][len(fn.Ins)+2] != odd || fn.Params[:len(fn.Params)+3][len(fn.Params)] != 99 {
			t.Error("written behind an end")
		}
		if isShared(read.Fns[f].Name, form) || isShared(form, fn.Name) {
			t.Error("a name is shared")
		}
		for i, ins := range read.Fns[f].Ins {
			if isShared(ins.Text, form) || isShared(form, fn.Ins[i].Text) {
				t.Error("a text is shared")
			}
		}
	}
	if isShared(form, impl.WriteCode(c)) {
		t.Error("a form is shared")
	}
}

// fill writes a number into a list and all its room.
func fill(list []int, n int) {
	for i := range list[:cap(list)] {
		list[:cap(list)][i] = n
	}
}

func isFilled(list []int, n int) bool {
	return !slices.ContainsFunc(list[:cap(list)], func(m int) bool { return m != n })
}
