package tests

import (
	"fmt"
	"reflect"
	"strings"
	"testing"

	"loop.example/kilnmill/impl"
)

// span is where a list, with all its room, or a text lies.
type span struct {
	from, to uintptr
	what     string
}

// spansOf are those of all lists and texts of a value.
func spansOf(v reflect.Value) []span {
	var all []span
	switch v.Kind() {
	case reflect.String:
		if v.Len() > 0 {
			from := uintptr(v.UnsafePointer())
			all = append(all, span{from, from + uintptr(v.Len()), fmt.Sprintf("%.30q", v.String())})
		}
	case reflect.Slice:
		if size := v.Type().Elem().Size() * uintptr(v.Cap()); size > 0 {
			all = append(all, span{v.Pointer(), v.Pointer() + size, v.Type().String()})
		}
		for i := range v.Len() {
			all = append(all, spansOf(v.Index(i))...)
		}
	case reflect.Struct:
		for i := range v.NumField() {
			all = append(all, spansOf(v.Field(i))...)
		}
	}
	return all
}

// roomy is a value in lists that have room behind their ends, in which marks lie.
func roomy(v reflect.Value) reflect.Value {
	made := reflect.New(v.Type()).Elem()
	switch v.Kind() {
	case reflect.String:
		made.SetString(strings.Clone(v.String()))
	case reflect.Slice:
		room := reflect.MakeSlice(v.Type(), v.Len()+3, v.Len()+3)
		for i := range room.Len() {
			if i < v.Len() {
				room.Index(i).Set(roomy(v.Index(i)))
			} else {
				setMark(room.Index(i))
			}
		}
		made.Set(room.Slice(0, v.Len()))
	case reflect.Struct:
		for i := range v.NumField() {
			made.Field(i).Set(roomy(v.Field(i)))
		}
	default:
		made.Set(v)
	}
	return made
}

func setMark(v reflect.Value) {
	switch v.Kind() {
	case reflect.String:
		v.SetString("mark")
	case reflect.Int, reflect.Int64:
		v.SetInt(77)
	case reflect.Struct:
		for i := range v.NumField() {
			setMark(v.Field(i))
		}
	}
}

// dumped shows a value with what lies in the room of its lists.
func dumped(v reflect.Value) string {
	switch v.Kind() {
	case reflect.Slice:
		var b strings.Builder
		room := v.Slice(0, v.Cap())
		fmt.Fprintf(&b, "%d of %d [", v.Len(), v.Cap())
		for i := range room.Len() {
			b.WriteString(dumped(room.Index(i)) + ", ")
		}
		return b.String() + "]"
	case reflect.Struct:
		var b strings.Builder
		for i := range v.NumField() {
			b.WriteString(dumped(v.Field(i)) + "; ")
		}
		return b.String()
	}
	return fmt.Sprintf("%q", fmt.Sprint(v.Interface()))
}

// ownRoom has an argument in lists with room.
func ownRoom[T any](v T) T {
	return roomy(reflect.ValueOf(v)).Interface().(T)
}

// wantOwn: what a call answers is new memory, and its arguments stay as they are, up to the end of their room.
func wantOwn(t *testing.T, what string, call func() any, args ...any) {
	t.Helper()
	var before []string
	var given []span
	for _, arg := range args {
		before = append(before, dumped(reflect.ValueOf(arg)))
		given = append(given, spansOf(reflect.ValueOf(arg))...)
	}
	answer := spansOf(reflect.ValueOf(call()))
	for i, arg := range args {
		if after := dumped(reflect.ValueOf(arg)); after != before[i] {
			t.Fatalf("%s changes its argument:\n%.1000s\nto\n%.1000s", what, before[i], after)
		}
	}
	for i, a := range answer {
		for _, others := range [][]span{given, answer[:i]} {
			for _, b := range others {
				if a.from < b.to && b.from < a.to {
					t.Fatalf("%s: %s is shared with %s", what, a.what, b.what)
				}
			}
		}
	}
}

// wantOwnAll asks all of a machine.
func wantOwnAll(t *testing.T, m impl.Machine, replies ...impl.Reply) {
	t.Helper()
	m = ownRoom(m)
	wantOwn(t, "Step", func() any { return impl.Step(m) }, m)
	wantOwn(t, "Shown", func() any { return impl.Shown(m) }, m)
	wantOwn(t, "ValidMachine", func() any { return impl.ValidMachine(m) }, m)
	for _, most := range []int{-1, 0, 2, 1000} {
		wantOwn(t, "Go", func() any { return impl.Go(m, most) }, m)
	}
	for _, y := range replies {
		y = ownRoom(y)
		wantOwn(t, "Answer", func() any { return impl.Answer(m, y) }, m, y)
	}
}

// What is answered is new memory, at each state of a run and whatever it is answered.
func TestMachineOwnMemory(t *testing.T) {
	replies := []impl.Reply{{Text: richTool}, {Text: "no program"}, goneReply, {Code: 7}}
	j := ownRoom(impl.Job{Arg: "arg", Outs: []string{"n", "o"}})
	c := ownRoom(impl.Compile(parsed(t, richCaller)))
	wantOwn(t, "Start", func() any { return impl.Start(c, j) }, c, j)
	m := impl.Start(c, j)
	for range 300 {
		wantOwnAll(t, m, replies...)
		if m.Over {
			break
		}
		if m.Kind == 0 {
			m = impl.Step(m)
			continue
		}
		m = impl.Answer(m, replies[0])
	}
	if !m.Over || m.Text != "lacks n" {
		t.Errorf("%s", writtenMachine(m))
	}
	// Ends with something in all that they have; writes ahead of others, and behind them; what is cut out of a text, and what is put twice.
	src := mainOf("write \"p\", arg(); let a = cut(arg(), 1, 3); let b = a; write \"n\", a; say b; say \"\"; write \"o\", read(a + b); write \"n\", list(a); return a + tool(a, b);")
	m = begunOf(t, src, impl.Job{Arg: "an-arg", Outs: []string{"n", "o", "p"}})
	for range 100 {
		wantOwnAll(t, m, impl.Reply{Text: mainOf("return arg();")}, belowReply)
		if m = impl.Step(m); m.Kind != 0 {
			wantOwnAll(t, m, impl.Reply{Text: mainOf("return arg();")}, belowReply)
			m = impl.Answer(m, impl.Reply{Text: mainOf("return arg();")})
		}
	}
	if m.End != impl.Done || len(m.Files) != 3 || len(m.Said) != 2 {
		t.Errorf("%s", writtenMachine(m))
	}
	// Such as are not valid.
	wrong := newMachine(rich(t))
	wrong.Frames[5].Stack = append(wrong.Frames[5].Stack, vText("too much"))
	wantOwnAll(t, wrong, replies...)
	wantOwnAll(t, impl.Machine{Over: true, Text: "text", End: 9, Said: []string{"s"}}, replies...)
}

// Nothing is kept between two calls: the same machine goes on in the same way, whatever was done with others meanwhile.
func TestMachineKeepsNothing(t *testing.T) {
	m := rich(t)
	first := answeredBy(t, m, impl.Reply{Text: "x"})
	answeredBy(t, m, impl.Reply{Text: "y"})
	impl.Answer(m, goneReply)
	wantMachine(t, "again", answeredBy(t, m, impl.Reply{Text: "x"}), first)
}
