package tests

import (
	"strings"
	"testing"
	"unsafe"

	"loop.example/kilnmill/impl"
)

const allWords = "bool text u8 u16 u32 u64 i8 i16 i32 i64 fn let if else while break continue return fail write say true false read has list tool arg len at cut find chr dec num"

const allMarks = "( ) { } , ; = < > + - * / % & | ^ ! ~ -> == != <= >= << >> && ||"

func name(s string) impl.Token { return impl.Token{Kind: impl.TokName, Text: s} }
func word(s string) impl.Token { return impl.Token{Kind: impl.TokWord, Text: s} }
func text(s string) impl.Token { return impl.Token{Kind: impl.TokText, Text: s} }
func mark(s string) impl.Token { return impl.Token{Kind: impl.TokMark, Text: s} }
func number(typ int, n int64) impl.Token {
	return impl.Token{Kind: impl.TokInt, Type: typ, N: n}
}

// wantTokens holds the tokens of src against want, whose At plays no part.
func wantTokens(t *testing.T, src string, want ...impl.Token) {
	t.Helper()
	got, f := impl.Scan(src)
	if f != (impl.Fault{}) || len(got) != len(want) {
		t.Errorf("%.40q: %d tokens, %+v, want %d", src, len(got), f, len(want))
		return
	}
	for i, k := range got {
		k.At = 0
		if k != want[i] {
			t.Errorf("%.40q: token %d is %#v, want %#v", src, i, k, want[i])
		}
	}
}

func wantFault(t *testing.T, src string, code, at int) {
	t.Helper()
	got, f := impl.Scan(src)
	if f != (impl.Fault{Code: code, At: at}) || len(got) != 0 {
		t.Errorf("%.40q: %d tokens, %+v, want code %d at %d", src, len(got), f, code, at)
	}
}

func TestScanNames(t *testing.T) {
	for _, s := range []string{"a", "z", "main", "a_", "a__1", "a0", "x9z_", "fn_", "fnx", "u8x", "u128", "i", "u", "lets", "iff", "reads", "nums", "true1"} {
		wantTokens(t, s, name(s))
	}
	wantTokens(t, "fn1 fn", name("fn1"), word("fn"))
	wantTokens(t, "a\"b\"c", name("a"), text("b"), name("c"))
}

func TestScanWords(t *testing.T) {
	words := strings.Fields(allWords)
	if len(words) != 35 {
		t.Fatal(len(words))
	}
	for _, s := range words {
		wantTokens(t, s, word(s))
		wantTokens(t, s+"_", name(s+"_"))
		wantTokens(t, "x"+s, name("x"+s))
	}
}

func TestScanNumbers(t *testing.T) {
	wantTokens(t, "0", number(impl.TypeI64, 0))
	wantTokens(t, "7", number(impl.TypeI64, 7))
	wantTokens(t, "10", number(impl.TypeI64, 10))
	wantTokens(t, "-1", mark("-"), number(impl.TypeI64, 1))
	wantTokens(t, "1\"x\"", number(impl.TypeI64, 1), text("x"))
	wantTokens(t, "1-2u8", number(impl.TypeI64, 1), mark("-"), number(impl.TypeU8, 2))
}

func TestScanGreatestNumbers(t *testing.T) {
	for _, c := range []struct {
		word, most, more string
		typ              int
		n                int64
	}{
		{"", "9223372036854775807", "9223372036854775808", impl.TypeI64, 9223372036854775807},
		{"u8", "255", "256", impl.TypeU8, 255},
		{"u16", "65535", "65536", impl.TypeU16, 65535},
		{"u32", "4294967295", "4294967296", impl.TypeU32, 4294967295},
		{"u64", "18446744073709551615", "18446744073709551616", impl.TypeU64, -1},
		{"i8", "127", "128", impl.TypeI8, 127},
		{"i16", "32767", "32768", impl.TypeI16, 32767},
		{"i32", "2147483647", "2147483648", impl.TypeI32, 2147483647},
		{"i64", "9223372036854775807", "9223372036854775808", impl.TypeI64, 9223372036854775807},
	} {
		wantTokens(t, "0"+c.word, number(c.typ, 0))
		wantTokens(t, "1"+c.word, number(c.typ, 1))
		wantTokens(t, c.most+c.word, number(c.typ, c.n))
		wantFault(t, "a "+c.more+c.word, 3, 2)
		wantFault(t, "("+c.most+"0"+c.word, 3, 1)
		wantFault(t, "00"+c.word, 3, 0)
		wantFault(t, "01"+c.word, 3, 0)
		wantFault(t, strings.Repeat("9", 400)+c.word, 3, 0)
	}
	wantTokens(t, "9223372036854775808u64", number(impl.TypeU64, -9223372036854775808))
}

func TestScanWrongNumbers(t *testing.T) {
	for _, s := range []string{"1x", "0x", "1_", "1_000", "1u", "1u7", "1u8x", "1u8_", "1u80", "1u08", "1u128", "1i63", "1i", "1bool", "0bool", "1text", "0text", "1fn", "0fn", "0true", "0len", "0nothing", "000", "0" + strings.Repeat("0", 30), "1" + strings.Repeat("a", 40)} {
		wantFault(t, s, 3, 0)
		wantFault(t, " ;"+s+" @", 3, 2)
	}
	wantFault(t, "1U8", 2, 1)
	wantFault(t, "1.5", 2, 1)
}

func TestScanTexts(t *testing.T) {
	wantTokens(t, `""`, text(""))
	wantTokens(t, `"" ""`, text(""), text(""))
	wantTokens(t, `"a""b"`, text("a"), text("b"))
	wantTokens(t, `"# no remark" # one`, text("# no remark"))
	wantTokens(t, `"\22\5c\20\41\7e"`, text("\"\\ A~"))
	wantTokens(t, `"\0a0"`, text("\n0"))
	const digits = "0123456789abcdef"
	for b := 0; b < 256; b++ {
		s := string([]byte{byte(b)})
		wantTokens(t, `"x\`+string([]byte{digits[b/16], digits[b%16]})+`y"`, text("x"+s+"y"))
		if b >= 32 && b <= 126 && b != '"' && b != '\\' {
			wantTokens(t, `"x`+s+`y"`, text("x"+s+"y"))
		} else if b != '"' {
			wantFault(t, `, "x`+s+`y"`, 4, 2)
		}
	}
}

func TestScanWrongTexts(t *testing.T) {
	for _, s := range []string{`"`, `"a`, `"\`, `"\4`, `"\41`, `"\"`, `"\4"`, `"\\"`, `"\\41"`, `"\n"`, `"\4g"`, `"\g4"`, `"\4A"`, `"\A4"`, `"\ 41"`, `"\x41"`, `"\/0"`, `"\:0"`, "\"\\`0\"", `"\0/"`, `"\0:"`, "\"\\0`\"", "\"a\nb\"", "\"a\tb\"", "\"\x00\"", "\"\x7f\"", "\"\u00e9\"", "\"\xff\"", "\"# a\n"} {
		wantFault(t, s, 4, 0)
		wantFault(t, "a \n"+s, 4, 3)
	}
	wantFault(t, `"a" "`, 4, 4)
}

func TestScanMarks(t *testing.T) {
	marks := strings.Fields(allMarks)
	if len(marks) != 28 {
		t.Fatal(len(marks))
	}
	whole := map[string]bool{}
	for _, m := range marks {
		whole[m] = true
		wantTokens(t, m, mark(m))
		wantTokens(t, "a"+m+"1", name("a"), mark(m), number(impl.TypeI64, 1))
	}
	for _, a := range marks {
		for _, b := range marks {
			if len(a) == 1 && len(b) == 1 && whole[a+b] {
				wantTokens(t, a+b, mark(a+b))
			} else if len(a) == 2 || len(b) == 1 || !whole[a+b[:1]] {
				wantTokens(t, a+b, mark(a), mark(b))
			} else {
				wantTokens(t, a+b, mark(a+b[:1]), mark(b[1:]))
			}
			wantTokens(t, a+" "+b, mark(a), mark(b))
			wantTokens(t, a+"\n"+b, mark(a), mark(b))
		}
	}
	wantTokens(t, "<<<<=", mark("<<"), mark("<<"), mark("="))
	wantTokens(t, "--->", mark("-"), mark("-"), mark("->"))
}

func TestScanGaps(t *testing.T) {
	for _, s := range []string{"", " ", "\n", "#", "# a", "#\n", "##\n#", " \n # \x00\xff\t\"\n  "} {
		wantTokens(t, s)
	}
	wantTokens(t, "a#b\nc", name("a"), name("c"))
	wantTokens(t, "a# \"b\n\"c\"#", name("a"), text("c"))
	wantTokens(t, "1#2\n3", number(impl.TypeI64, 1), number(impl.TypeI64, 3))
	got, f := impl.Scan("  a#b\n\n c")
	if f != (impl.Fault{}) || len(got) != 2 || got[0].At != 2 || got[1].At != 8 {
		t.Errorf("%+v %+v", got, f)
	}
}

func TestScanFirstBytes(t *testing.T) {
	const begins = "abcdefghijklmnopqrstuvwxyz0123456789(){},;=<>+-*/%&|^!~"
	for b := 0; b < 256; b++ {
		s := string([]byte{byte(b)})
		switch {
		case s == " " || s == "\n" || s == "#":
			wantTokens(t, "a "+s, name("a"))
		case s == "\"":
			wantFault(t, "a "+s, 4, 2)
		case strings.Contains(begins, s):
			if got, f := impl.Scan("a " + s); f != (impl.Fault{}) || len(got) != 2 || got[1].At != 2 {
				t.Errorf("%q: %+v %+v", s, got, f)
			}
		default:
			wantFault(t, s, 2, 0)
			wantFault(t, "a "+s, 2, 2)
			wantFault(t, "1 "+s+"b", 2, 2)
			wantFault(t, "\"x\""+s, 2, 3)
		}
	}
	wantFault(t, "a\t", 2, 1)
	wantFault(t, "aB", 2, 1)
	wantFault(t, "a\u00e9", 2, 1)
	wantFault(t, "a\r\n", 2, 1)
}

func TestScanLimits(t *testing.T) {
	n := strings.Repeat("n", impl.MaxName)
	wantTokens(t, n, name(n))
	wantTokens(t, n+" "+n, name(n), name(n))
	wantFault(t, n+"n", 5, 0)
	wantFault(t, "a "+n+"_", 5, 2)
	wantFault(t, "a "+n+"0 b", 5, 2)

	x := strings.Repeat("x", impl.MaxText)
	wantTokens(t, `"`+x+`"`, text(x))
	wantTokens(t, `"`+strings.Repeat(`\78`, impl.MaxText)+`"`, text(x))
	wantFault(t, `a "`+x+`y"`, 5, 2)
	wantFault(t, `"`+strings.Repeat(`\78`, impl.MaxText+1)+`"`, 5, 0)

	wantTokens(t, strings.Repeat(" ", impl.MaxSrc))
	wantFault(t, strings.Repeat(" ", impl.MaxSrc+1), 1, 0)
	wantTokens(t, "#"+strings.Repeat("@", impl.MaxSrc-1))
	marks := strings.Repeat("(", impl.MaxSrc)
	if got, f := impl.Scan(marks); len(got) != impl.MaxSrc || f != (impl.Fault{}) || got[impl.MaxSrc-1].At != impl.MaxSrc-1 {
		t.Errorf("%d tokens, %+v", len(got), f)
	}
	wantFault(t, marks+"(", 1, 0)
	wantFault(t, strings.Repeat("(", impl.MaxSrc-1)+"@", 2, impl.MaxSrc-1)
}

func TestScanFirstFault(t *testing.T) {
	x := strings.Repeat("x", impl.MaxText+1)
	n := strings.Repeat("n", impl.MaxName+1)
	wantFault(t, `"`+x, 4, 0)
	wantFault(t, `"`+x+"\n\"", 4, 0)
	wantFault(t, `"`+x+`\4g"`, 4, 0)
	wantFault(t, `"`+x+`" "`, 5, 0)
	wantFault(t, "@"+strings.Repeat(" ", impl.MaxSrc), 1, 0)
	wantFault(t, `"`+strings.Repeat(" ", impl.MaxSrc), 1, 0)
	wantFault(t, "a 1x @", 3, 2)
	wantFault(t, n+" @", 5, 0)
	wantFault(t, "@ "+n, 2, 0)
	wantFault(t, `"\zz" 1x`, 4, 0)
	wantFault(t, "(\n01 \"", 3, 2)
}

func TestScanGivesNewMemory(t *testing.T) {
	src := strings.Clone(`fn long_name "text" -> 12u8 ;`)
	from := uintptr(unsafe.Pointer(unsafe.StringData(src)))
	first, _ := impl.Scan(src)
	for _, k := range first {
		if k.Text == "" {
			continue
		}
		if at := uintptr(unsafe.Pointer(unsafe.StringData(k.Text))); at >= from && at < from+uintptr(len(src)) {
			t.Errorf("%q lies in the argument", k.Text)
		}
	}
	clear(first[:cap(first)])
	wantTokens(t, src, word("fn"), name("long_name"), text("text"), mark("->"), number(impl.TypeU8, 12), mark(";"))
}
