package tests

import (
	"math"
	"slices"
	"strings"
	"testing"
	"unsafe"

	"loop.example/kilnmill/impl"
)

func vInt(typ int, n int64) impl.Value { return impl.Value{Type: typ, N: n} }

func vI64(n int64) impl.Value { return vInt(impl.TypeI64, n) }

func vText(text string) impl.Value { return impl.Value{Type: impl.TypeText, Text: text} }

func vBool(yes bool) impl.Value {
	if yes {
		return vInt(impl.TypeBool, 1)
	}
	return vInt(impl.TypeBool, 0)
}

// xs is a text of so many bytes.
func xs(size int) string { return strings.Repeat("x", size) }

// The least and the greatest N of each type, by its number; those of u64 are told apart by all 64 bits.
var leastN = []int64{0, 0, 0, 0, 0, 0, math.MinInt64, -128, -32768, -2147483648, math.MinInt64}
var greatestN = []int64{0, 1, 0, 255, 65535, 4294967295, math.MaxInt64, 127, 32767, 2147483647, math.MaxInt64}

// intTypes are the integer types.
var intTypes = []int{3, 4, 5, 6, 7, 8, 9, 10}

// wrongValues are values that are not valid.
func wrongValues() []impl.Value {
	wrong := []impl.Value{
		{}, {N: 1}, {Text: "x"}, vInt(-1, 0), vInt(11, 0), vInt(11, 1), vInt(math.MaxInt, 0), vInt(math.MinInt, 0),
		vInt(impl.TypeBool, 2), vInt(impl.TypeBool, -1), vInt(impl.TypeBool, math.MinInt64),
		{Type: impl.TypeBool, Text: "x"}, {Type: impl.TypeBool, N: 1, Text: "true"},
		{Type: impl.TypeText, N: 1}, {Type: impl.TypeText, N: -1, Text: "x"}, vText(xs(3001)), vText(xs(100000)),
	}
	for _, typ := range intTypes {
		wrong = append(wrong, impl.Value{Type: typ, Text: "0"}, impl.Value{Type: typ, N: 1, Text: "\x00"})
		if leastN[typ] > math.MinInt64 {
			wrong = append(wrong, vInt(typ, leastN[typ]-1), vInt(typ, math.MinInt64))
		}
		if greatestN[typ] < math.MaxInt64 {
			wrong = append(wrong, vInt(typ, greatestN[typ]+1), vInt(typ, math.MaxInt64))
		}
	}
	return wrong
}

func TestValidValue(t *testing.T) {
	right := []impl.Value{vBool(true), vBool(false), vText(""), vText("\x00\xff"), vText(xs(3000))}
	for _, typ := range intTypes {
		for _, n := range []int64{0, 1, leastN[typ], leastN[typ] + 1, greatestN[typ] - 1, greatestN[typ]} {
			right = append(right, vInt(typ, n))
		}
	}
	right = append(right, vInt(impl.TypeU64, -1))
	for _, v := range right {
		if !impl.ValidValue(v) {
			t.Errorf("%+v is valid", v)
		}
	}
	for _, v := range wrongValues() {
		if impl.ValidValue(v) {
			t.Errorf("%.80v is not valid", v)
		}
	}
}

// wantValue: that value and no word, or no value and that word; and a value that is valid.
func wantValue(t *testing.T, what string, got impl.Value, word string, want impl.Value, wantWord string) {
	t.Helper()
	if got != want || word != wantWord {
		t.Errorf("%s: %.80v %q, want %.80v %q", what, got, word, want, wantWord)
	}
	if word == "" && !impl.ValidValue(got) {
		t.Errorf("%s: %.80v is not valid", what, got)
	}
}

// wantBin: what a mark between two numbers of a type gives.
func wantBin(t *testing.T, op, typ int, a, b, want int64) {
	t.Helper()
	got, word := impl.Binary(op, vInt(typ, a), vInt(typ, b))
	if got != vInt(typ, want) || word != "" {
		t.Errorf("%d %s %d of %s: %v %q, want %d", a, binMarks[op], b, typeWords[typ], got, word, want)
	}
}

func TestWrap(t *testing.T) {
	for _, typ := range intTypes {
		least, greatest := leastN[typ], greatestN[typ]
		if typ == impl.TypeU64 {
			least, greatest = 0, -1
		}
		wantBin(t, impl.OpAdd, typ, greatest, 1, least)
		wantBin(t, impl.OpSub, typ, least, 1, greatest)
		wantBin(t, impl.OpMul, typ, greatest, greatest, 1)
		wantBin(t, impl.OpMul, typ, least, greatest, least)
		neg, word := impl.Unary(impl.OpNeg, vInt(typ, least))
		wantValue(t, "- of the least", neg, word, vInt(typ, least), "")
		inv, word := impl.Unary(impl.OpInv, vInt(typ, least))
		wantValue(t, "~ of the least", inv, word, vInt(typ, greatest), "")
	}
	wantBin(t, impl.OpAdd, impl.TypeU16, 65535, 65535, 65534)
	wantBin(t, impl.OpMul, impl.TypeU32, 65536, 65536, 0)
	wantBin(t, impl.OpMul, impl.TypeI32, 65536, 32768, -2147483648)
	wantBin(t, impl.OpMul, impl.TypeI16, -256, 128, -32768)
}

func TestDivide(t *testing.T) {
	for _, typ := range intTypes {
		for _, op := range []int{impl.OpDiv, impl.OpRem} {
			for _, n := range []int64{0, 1, leastN[typ], greatestN[typ]} {
				got, word := impl.Binary(op, vInt(typ, n), vInt(typ, 0))
				wantValue(t, "by 0", got, word, impl.Value{}, "divide")
			}
		}
		if typ < impl.TypeI8 {
			continue
		}
		wantBin(t, impl.OpDiv, typ, leastN[typ], -1, leastN[typ])
		wantBin(t, impl.OpRem, typ, leastN[typ], -1, 0)
		wantBin(t, impl.OpDiv, typ, leastN[typ], 1, leastN[typ])
		wantBin(t, impl.OpDiv, typ, leastN[typ]+1, -1, greatestN[typ])
		for _, c := range [][4]int64{{7, 2, 3, 1}, {-7, 2, -3, -1}, {7, -2, -3, 1}, {-7, -2, 3, -1}, {6, 3, 2, 0}, {-6, 3, -2, 0}, {1, 2, 0, 1}, {-1, 2, 0, -1}, {0, 5, 0, 0}} {
			wantBin(t, impl.OpDiv, typ, c[0], c[1], c[2])
			wantBin(t, impl.OpRem, typ, c[0], c[1], c[3])
		}
	}
	wantBin(t, impl.OpDiv, impl.TypeU64, -1, math.MinInt64, 1)
	wantBin(t, impl.OpRem, impl.TypeU64, -1, math.MinInt64, math.MaxInt64)
	wantBin(t, impl.OpDiv, impl.TypeU64, math.MinInt64, -1, 0)
	wantBin(t, impl.OpRem, impl.TypeU64, math.MinInt64, -1, math.MinInt64)
	wantBin(t, impl.OpRem, impl.TypeU8, 255, 2, 1)
}

func TestShift(t *testing.T) {
	bits := []int64{0, 0, 0, 8, 16, 32, 64, 8, 16, 32, 64}
	for _, typ := range intTypes {
		past := []int64{bits[typ], bits[typ] + 1, greatestN[typ]}
		if typ >= impl.TypeI8 {
			past = append(past, -1, -2, -bits[typ], leastN[typ])
		}
		if typ == impl.TypeU64 {
			past = append(past, -1, math.MinInt64, math.MinInt64+1)
		}
		for _, by := range past {
			for _, a := range []int64{0, 1, greatestN[typ]} {
				wantBin(t, impl.OpLeft, typ, a, by, 0)
				wantBin(t, impl.OpRight, typ, a, by, 0)
			}
			for _, a := range []int64{-1, leastN[typ]} {
				if typ >= impl.TypeI8 {
					wantBin(t, impl.OpLeft, typ, a, by, 0)
					wantBin(t, impl.OpRight, typ, a, by, -1)
				}
			}
		}
		wantBin(t, impl.OpLeft, typ, 1, 0, 1)
		wantBin(t, impl.OpRight, typ, 1, 0, 1)
		wantBin(t, impl.OpLeft, typ, 2, bits[typ]-1, 0)
		wantBin(t, impl.OpRight, typ, 6, 1, 3)
	}
	for _, typ := range []int{impl.TypeI8, impl.TypeI16, impl.TypeI32, impl.TypeI64} {
		wantBin(t, impl.OpLeft, typ, 1, bits[typ]-1, leastN[typ])
		wantBin(t, impl.OpRight, typ, leastN[typ], bits[typ]-1, -1)
		wantBin(t, impl.OpRight, typ, leastN[typ], bits[typ]-2, -2)
		wantBin(t, impl.OpRight, typ, -5, 1, -3)
	}
	wantBin(t, impl.OpLeft, impl.TypeU8, 255, 7, 128)
	wantBin(t, impl.OpRight, impl.TypeU8, 255, 7, 1)
	wantBin(t, impl.OpLeft, impl.TypeU64, -1, 63, math.MinInt64)
	wantBin(t, impl.OpRight, impl.TypeU64, -1, 1, math.MaxInt64)
	wantBin(t, impl.OpRight, impl.TypeU64, math.MinInt64, 63, 1)
}

// wantCompared: the marks OpSame to OpLeast, where the first of two is below (-1), the same (0) or above (1).
func wantCompared(t *testing.T, a, b impl.Value, sign int) {
	t.Helper()
	truth := [][]bool{
		{false, true, true, true, false, false},
		{true, false, false, true, false, true},
		{false, true, false, false, true, true},
	}[sign+1]
	for i, want := range truth {
		got, word := impl.Binary(impl.OpSame+i, a, b)
		wantWord, wanted := "", vBool(want)
		if a.Type == impl.TypeBool && i > 1 {
			wantWord, wanted = "type", impl.Value{}
		}
		if got != wanted || word != wantWord {
			t.Errorf("%.80v %s %.80v: %v %q", a, binMarks[impl.OpSame+i], b, got, word)
		}
	}
}

// TestCompare has ascending lists, and holds all of each list against each other.
func TestCompare(t *testing.T) {
	lists := [][]impl.Value{
		{vBool(false), vBool(true)},
		{vText(""), vText("\x00"), vText("\x00\x00"), vText("A"), vText("a"), vText("a\x00"), vText("aa"), vText("ab"), vText("b"), vText("\x7f"), vText("\x80"), vText("é"), vText("\xff")},
		{vText(xs(2999)), vText(xs(3000)), vText(xs(2999) + "y")},
		{vInt(impl.TypeU64, 0), vInt(impl.TypeU64, 1), vInt(impl.TypeU64, math.MaxInt64), vInt(impl.TypeU64, math.MinInt64), vInt(impl.TypeU64, -2), vInt(impl.TypeU64, -1)},
	}
	for _, typ := range []int{impl.TypeU8, impl.TypeU16, impl.TypeU32} {
		lists = append(lists, []impl.Value{vInt(typ, 0), vInt(typ, 1), vInt(typ, greatestN[typ]/2), vInt(typ, greatestN[typ]/2+1), vInt(typ, greatestN[typ])})
	}
	for _, typ := range []int{impl.TypeI8, impl.TypeI16, impl.TypeI32, impl.TypeI64} {
		lists = append(lists, []impl.Value{vInt(typ, leastN[typ]), vInt(typ, -1), vInt(typ, 0), vInt(typ, 1), vInt(typ, greatestN[typ])})
	}
	for _, list := range lists {
		for i, a := range list {
			for j, b := range list {
				sign := 0
				if i < j {
					sign = -1
				} else if i > j {
					sign = 1
				}
				wantCompared(t, a, b, sign)
			}
		}
	}
}

func TestBools(t *testing.T) {
	for _, a := range []bool{false, true} {
		got, word := impl.Unary(impl.OpNot, vBool(a))
		wantValue(t, "!", got, word, vBool(!a), "")
		for _, b := range []bool{false, true} {
			or, word := impl.Binary(impl.OpOr, vBool(a), vBool(b))
			wantValue(t, "||", or, word, vBool(a || b), "")
			and, word := impl.Binary(impl.OpAnd, vBool(a), vBool(b))
			wantValue(t, "&&", and, word, vBool(a && b), "")
		}
	}
}

func TestAddTexts(t *testing.T) {
	for _, c := range [][2]string{{"", ""}, {"a", ""}, {"", "a"}, {"a", "b"}, {"\x00", "\xff"}, {xs(3000), ""}, {"", xs(3000)}, {xs(1500), xs(1500)}, {xs(1), xs(2999)}} {
		got, word := impl.Binary(impl.OpAdd, vText(c[0]), vText(c[1]))
		wantValue(t, "+", got, word, vText(c[0]+c[1]), "")
	}
	for _, c := range [][2]string{{xs(3000), "a"}, {"a", xs(3000)}, {xs(1500), xs(1501)}, {xs(3000), xs(3000)}} {
		got, word := impl.Binary(impl.OpAdd, vText(c[0]), vText(c[1]))
		wantValue(t, "+", got, word, impl.Value{}, "long")
	}
	// A text that no program can handle is told before the length of both.
	got, word := impl.Binary(impl.OpAdd, vText(xs(3001)), vText("a"))
	wantValue(t, "+", got, word, impl.Value{}, "type")
}

func TestConvert(t *testing.T) {
	for _, c := range []struct {
		from int
		n    int64
		to   int
		want int64
	}{
		{impl.TypeI64, -1, impl.TypeU8, 255}, {impl.TypeI64, -1, impl.TypeU16, 65535}, {impl.TypeI64, -1, impl.TypeU32, 4294967295}, {impl.TypeI64, -1, impl.TypeU64, -1},
		{impl.TypeU64, -1, impl.TypeI8, -1}, {impl.TypeU64, -1, impl.TypeI16, -1}, {impl.TypeU64, -1, impl.TypeI32, -1}, {impl.TypeU64, -1, impl.TypeI64, -1},
		{impl.TypeU8, 255, impl.TypeI8, -1}, {impl.TypeU8, 255, impl.TypeI16, 255}, {impl.TypeU8, 128, impl.TypeI8, -128}, {impl.TypeU8, 127, impl.TypeI8, 127},
		{impl.TypeI8, -128, impl.TypeU8, 128}, {impl.TypeI8, -1, impl.TypeU64, -1}, {impl.TypeI8, -1, impl.TypeI64, -1}, {impl.TypeI8, -128, impl.TypeI16, -128}, {impl.TypeI8, -1, impl.TypeU32, 4294967295},
		{impl.TypeU32, 4294967295, impl.TypeI64, 4294967295}, {impl.TypeU32, 4294967295, impl.TypeI32, -1}, {impl.TypeU32, 65536, impl.TypeU16, 0}, {impl.TypeU32, 65535, impl.TypeI16, -1},
		{impl.TypeI64, math.MinInt64, impl.TypeI32, 0}, {impl.TypeI64, 2147483648, impl.TypeI32, -2147483648}, {impl.TypeI64, 256, impl.TypeU8, 0}, {impl.TypeI64, 0x123456789abcdef0, impl.TypeU32, 0x9abcdef0},
	} {
		got, word := impl.Convert(vInt(c.from, c.n), c.to)
		wantValue(t, "conversion", got, word, vInt(c.to, c.want), "")
	}
}

func wantBuilt(t *testing.T, op int, args []impl.Value, want impl.Value, wantWord string) {
	t.Helper()
	kept := slices.Clone(args)
	got, word := impl.Built(op, args)
	wantValue(t, "a word that is called", got, word, want, wantWord)
	if !slices.Equal(args, kept) {
		t.Errorf("arguments changed: %.80v", args)
	}
}

func TestLenChr(t *testing.T) {
	for _, size := range []int{0, 1, 2, 255, 256, 2999, 3000} {
		wantBuilt(t, impl.BuiltLen, []impl.Value{vText(xs(size))}, vI64(int64(size)), "")
	}
	wantBuilt(t, impl.BuiltLen, []impl.Value{vText("é\x00")}, vI64(3), "")
	for n := range 256 {
		wantBuilt(t, impl.BuiltChr, []impl.Value{vInt(impl.TypeU8, int64(n))}, vText(string([]byte{byte(n)})), "")
	}
}

func TestAtCut(t *testing.T) {
	for _, text := range []string{"", "a", "\x00\x80\xff", "abcde", xs(2998) + "yz"} {
		size := int64(len(text))
		places := []int64{math.MinInt64, -size, -2, -1, 0, 1, 2, 3, size - 1, size, size + 1, 1 << 32, math.MaxInt64}
		for _, i := range places {
			if i >= 0 && i < size {
				wantBuilt(t, impl.BuiltAt, []impl.Value{vText(text), vI64(i)}, vInt(impl.TypeU8, int64(text[i])), "")
			} else {
				wantBuilt(t, impl.BuiltAt, []impl.Value{vText(text), vI64(i)}, impl.Value{}, "range")
			}
			for _, j := range places {
				if 0 <= i && i <= j && j <= size {
					wantBuilt(t, impl.BuiltCut, []impl.Value{vText(text), vI64(i), vI64(j)}, vText(text[i:j]), "")
				} else {
					wantBuilt(t, impl.BuiltCut, []impl.Value{vText(text), vI64(i), vI64(j)}, impl.Value{}, "range")
				}
			}
		}
	}
}

func TestFind(t *testing.T) {
	for _, c := range []struct {
		text, part string
		want       int64
	}{
		{"", "", 0}, {"a", "", 0}, {"", "a", -1}, {"a", "a", 0}, {"ab", "b", 1}, {"ab", "abc", -1}, {"aab", "ab", 1}, {"abab", "ab", 0}, {"abab", "ba", 1},
		{"a\x00b", "\x00", 1}, {"é", "\xa9", 1}, {"\xff\xfe", "\xfe", 1}, {"abc", "B", -1}, {xs(2999) + "y", "y", 2999}, {xs(3000), xs(3000), 0}, {xs(2999), xs(3000), -1},
	} {
		wantBuilt(t, impl.BuiltFind, []impl.Value{vText(c.text), vText(c.part)}, vI64(c.want), "")
	}
}

func TestDecNum(t *testing.T) {
	for _, c := range []struct {
		typ  int
		n    int64
		want string
	}{
		{impl.TypeU8, 0, "0"}, {impl.TypeU8, 255, "255"}, {impl.TypeU16, 65535, "65535"}, {impl.TypeU32, 4294967295, "4294967295"},
		{impl.TypeU64, 0, "0"}, {impl.TypeU64, math.MaxInt64, "9223372036854775807"}, {impl.TypeU64, math.MinInt64, "9223372036854775808"}, {impl.TypeU64, -1, "18446744073709551615"},
		{impl.TypeI8, -128, "-128"}, {impl.TypeI8, 127, "127"}, {impl.TypeI8, 0, "0"}, {impl.TypeI16, -32768, "-32768"}, {impl.TypeI32, -2147483648, "-2147483648"},
		{impl.TypeI64, -1, "-1"}, {impl.TypeI64, 10, "10"}, {impl.TypeI64, math.MaxInt64, "9223372036854775807"}, {impl.TypeI64, math.MinInt64, "-9223372036854775808"},
	} {
		wantBuilt(t, impl.BuiltDec, []impl.Value{vInt(c.typ, c.n)}, vText(c.want), "")
		if c.typ == impl.TypeI64 {
			wantBuilt(t, impl.BuiltNum, []impl.Value{vText(c.want)}, vI64(c.n), "")
		}
	}
	for _, none := range []string{
		"", "-", "+", "+1", "--1", "-+1", "00", "01", "-0", "-01", " 1", "1 ", "1\n", "\x001", "1\x00", "1_0", "0x1", "0b1", "1e3", "1.0", "a", "1a", "1i64", "true", "١",
		"9223372036854775808", "-9223372036854775809", "18446744073709551615", "99999999999999999999", "-99999999999999999999", strings.Repeat("1", 3000), strings.Repeat("0", 3000),
	} {
		wantBuilt(t, impl.BuiltNum, []impl.Value{vText(none)}, impl.Value{}, "number")
	}
}

// TestWrongValues has each wrong value in each place, beside values that fit.
func TestWrongValues(t *testing.T) {
	for _, wrong := range wrongValues() {
		for op := -1; op <= 19; op++ {
			got, word := impl.Unary(op, wrong)
			wantValue(t, "a wrong value", got, word, impl.Value{}, "type")
			for _, fit := range []impl.Value{wrong, vInt(wrong.Type, 0), vInt(wrong.Type, 1), vText("x")} {
				got, word = impl.Binary(op, wrong, fit)
				wantValue(t, "a wrong first value", got, word, impl.Value{}, "type")
				got, word = impl.Binary(op, fit, wrong)
				wantValue(t, "a wrong second value", got, word, impl.Value{}, "type")
			}
		}
		for to := -1; to <= 11; to++ {
			got, word := impl.Convert(wrong, to)
			wantValue(t, "a conversion of a wrong value", got, word, impl.Value{}, "type")
		}
		for op := -1; op <= 13; op++ {
			wantBuilt(t, op, []impl.Value{wrong}, impl.Value{}, "type")
			for _, right := range [][]impl.Value{{vText("abc"), vI64(0)}, {vText("abc"), vText("c")}, {vText("abc"), vI64(0), vI64(1)}} {
				for place := range right {
					args := slices.Clone(right)
					args[place] = wrong
					wantBuilt(t, op, args, impl.Value{}, "type")
				}
			}
		}
	}
}

// TestFarOps: numbers of Ops, types and arguments that are far from any table.
func TestFarOps(t *testing.T) {
	one := vI64(1)
	for _, far := range []int{math.MinInt, math.MinInt32, -1, 0, 20, 100, 1 << 40, math.MaxInt} {
		got, word := impl.Unary(far, one)
		wantValue(t, "Unary", got, word, impl.Value{}, "type")
		got, word = impl.Binary(far, one, one)
		wantValue(t, "Binary", got, word, impl.Value{}, "type")
		got, word = impl.Convert(one, far)
		wantValue(t, "Convert", got, word, impl.Value{}, "type")
		for kids := range 5 {
			wantBuilt(t, far, slices.Repeat([]impl.Value{vText("")}, kids), impl.Value{}, "type")
		}
	}
	for op := -1; op <= 13; op++ {
		wantBuilt(t, op, slices.Repeat([]impl.Value{vText("")}, 10000), impl.Value{}, "type")
	}
}

// TestOwnText: the text of an answer lies in no argument, and nothing behind the arguments' end is written.
func TestOwnText(t *testing.T) {
	text := xs(100)
	room := []impl.Value{vText(text), vI64(0), vI64(100), vText("behind"), vI64(7)}
	kept := slices.Clone(room)
	cut, _ := impl.Built(impl.BuiltCut, room[:3])
	front, _ := impl.Binary(impl.OpAdd, vText(text), vText(""))
	back, _ := impl.Binary(impl.OpAdd, vText(""), vText(text))
	for _, v := range []impl.Value{cut, front, back} {
		if v.Text != text || unsafe.StringData(v.Text) == unsafe.StringData(text) {
			t.Errorf("%v shares its text", v)
		}
	}
	if !slices.Equal(room, kept) {
		t.Errorf("arguments changed: %v", room)
	}
}
