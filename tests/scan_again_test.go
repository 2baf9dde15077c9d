package tests

import (
	"math/big"
	"math/rand"
	"regexp"
	"slices"
	"strconv"
	"strings"
	"testing"

	"loop.example/kilnmill/impl"
)

var (
	gapForm  = regexp.MustCompile(`^(?:[ \n]|#[^\n]*)+`)
	wordForm = regexp.MustCompile(`^[a-z][a-z0-9_]*`)
	intForm  = regexp.MustCompile(`^[0-9][a-z0-9_]*`)
	goodInt  = regexp.MustCompile(`^(0|[1-9][0-9]*)((?:[ui](?:8|16|32|64))?)$`)
	textForm = regexp.MustCompile(`^"((?:[ !#-\[\]-~]|\\[0-9a-f][0-9a-f])*)"`)
	byteForm = regexp.MustCompile(`\\[0-9a-f][0-9a-f]`)
	markForm = regexp.MustCompile(`^(?:->|==|!=|<=|>=|<<|>>|&&|\|\||[(){},;=<>+*/%&|^!~-])`)
)

// typeWords: a type's word stands at its number.
var typeWords = []string{"", "bool", "text", "u8", "u16", "u32", "u64", "i8", "i16", "i32", "i64"}

// modelScan reads a text anew by forms, so that Scan can be held against something that is not built like it.
func modelScan(src string) ([]impl.Token, impl.Fault) {
	if len(src) > impl.MaxSrc {
		return nil, impl.Fault{Code: 1}
	}
	var list []impl.Token
	at := 0
	for {
		at += len(gapForm.FindString(src[at:]))
		if at == len(src) {
			return list, impl.Fault{}
		}
		k, size, code := modelToken(src[at:])
		if code != 0 {
			return nil, impl.Fault{Code: code, At: at}
		}
		k.At = at
		list = append(list, k)
		at += size
	}
}

func modelToken(rest string) (impl.Token, int, int) {
	if s := wordForm.FindString(rest); s != "" {
		if len(s) > 30 {
			return impl.Token{}, 0, 5
		}
		if slices.Contains(strings.Fields(allWords), s) {
			return word(s), len(s), 0
		}
		return name(s), len(s), 0
	}
	if s := intForm.FindString(rest); s != "" {
		k, ok := modelInt(s)
		if !ok {
			return impl.Token{}, 0, 3
		}
		return k, len(s), 0
	}
	if rest[0] == '"' {
		m := textForm.FindStringSubmatch(rest)
		if m == nil {
			return impl.Token{}, 0, 4
		}
		s := byteForm.ReplaceAllStringFunc(m[1], func(e string) string {
			b, _ := strconv.ParseUint(e[1:], 16, 8)
			return string([]byte{byte(b)})
		})
		if len(s) > 3000 {
			return impl.Token{}, 0, 5
		}
		return text(s), len(m[0]), 0
	}
	if s := markForm.FindString(rest); s != "" {
		return mark(s), len(s), 0
	}
	return impl.Token{}, 0, 2
}

func modelInt(s string) (impl.Token, bool) {
	m := goodInt.FindStringSubmatch(s)
	if m == nil {
		return impl.Token{}, false
	}
	kind := m[2]
	if kind == "" {
		kind = "i64"
	}
	bits, _ := strconv.Atoi(kind[1:])
	if kind[0] == 'i' {
		bits--
	}
	n, _ := new(big.Int).SetString(m[1], 10)
	if n.BitLen() > bits {
		return impl.Token{}, false
	}
	return number(slices.Index(typeWords, kind), int64(n.Uint64())), true
}

// written is a text of one token.
func written(k impl.Token) string {
	switch k.Kind {
	case impl.TokInt:
		if k.Type == impl.TypeI64 {
			return strconv.FormatUint(uint64(k.N), 10)
		}
		return strconv.FormatUint(uint64(k.N), 10) + typeWords[k.Type]
	case impl.TokText:
		return quoted(k.Text)
	}
	return k.Text
}

func quoted(s string) string {
	var b strings.Builder
	b.WriteByte('"')
	for i := range len(s) {
		if c := s[i]; c < 32 || c > 126 || c == '"' || c == '\\' {
			b.WriteString(`\` + strconv.FormatUint(uint64(c)+256, 16)[1:])
		} else {
			b.WriteByte(c)
		}
	}
	b.WriteByte('"')
	return b.String()
}

func withoutAt(list []impl.Token) []impl.Token {
	out := slices.Clone(list)
	for i := range out {
		out[i].At = 0
	}
	return out
}

// checkScan holds what Scan answers against the model, and, if it gives tokens, reads these again.
func checkScan(t *testing.T, src string) {
	t.Helper()
	got, f := impl.Scan(src)
	want, wantF := modelScan(src)
	if f != wantF || !slices.Equal(got, want) {
		t.Fatalf("%q: %#v %+v, want %#v %+v", src, got, f, want, wantF)
	}
	for _, gap := range []string{" ", "\n", "#\n", " # a \" 1x @\n "} {
		var pieces, cuts []string
		for i, k := range got {
			end := len(src)
			if i+1 < len(got) {
				end = got[i+1].At
			}
			pieces = append(pieces, written(k))
			cuts = append(cuts, src[k.At:end]+"\n")
		}
		checkAgain(t, strings.Join(pieces, gap), got)
		checkAgain(t, strings.Join(cuts, gap), got)
	}
}

func checkAgain(t *testing.T, src string, want []impl.Token) {
	t.Helper()
	if len(src) > impl.MaxSrc {
		return
	}
	again, f := impl.Scan(src)
	if f != (impl.Fault{}) || !slices.Equal(withoutAt(again), withoutAt(want)) {
		t.Fatalf("%q: %#v %+v, want %#v", src, again, f, want)
	}
}

// Pieces of which texts are made: good ones, and ones that are wrong alone or beside others.
var goodPieces = append(append(strings.Fields(allWords), strings.Fields(allMarks)...), " ", "\n", "# r\n", "#", "a", "z_9", "main", "0", "7", "255u8", "256u16", "65535u16", "4294967295u32", "18446744073709551615u64", "127i8", "9223372036854775807", `""`, `"a b"`, `"\41\00\ff"`, `"\22\5c#"`, "nnnnnnnnnnnnnnnnnnnnnnnnnnnnnn")

var wrongPieces = []string{"_", "01", "256u8", "128i8", "1u", "9223372036854775808", "18446744073709551616u64", `"`, `\`, `\4`, `"\4g"`, "\t", "@", "A", "~x", "\x00", "\x7f", "nnnnnnnnnnnnnnnnnnnnnnnnnnnnnnn"}

func madeText(r *rand.Rand, pieces []string, wrong int) string {
	var b strings.Builder
	for range r.Intn(14) {
		if r.Intn(100) < wrong {
			b.WriteString(wrongPieces[r.Intn(len(wrongPieces))])
		} else {
			b.WriteString(pieces[r.Intn(len(pieces))])
		}
		if r.Intn(2) == 0 {
			b.WriteByte(' ')
		}
	}
	return b.String()
}

func TestScanAgain(t *testing.T) {
	r := rand.New(rand.NewSource(1))
	kinds := map[int]int{}
	codes := map[int]int{}
	for range 20000 {
		src := madeText(r, goodPieces, 5)
		checkScan(t, src)
		got, f := impl.Scan(src)
		codes[f.Code]++
		for _, k := range got {
			kinds[k.Kind]++
		}
	}
	for kind := impl.TokName; kind <= impl.TokMark; kind++ {
		if kinds[kind] < 1000 {
			t.Errorf("kind %d was read only %d times", kind, kinds[kind])
		}
	}
	for _, code := range []int{0, 2, 3, 4, 5} {
		if codes[code] < 100 {
			t.Errorf("code %d was told only %d times", code, codes[code])
		}
	}
}

// Texts of single bytes that stand close together in the grammar: most of what they make is at an edge.
func TestScanAgainBytes(t *testing.T) {
	r := rand.New(rand.NewSource(2))
	for _, few := range []string{"u8i16320 ", "-><=!&|", "\"\\09af# \n", "a_1 \"#\n", "\"\\ 4~\x7f\x1f", "fnlet \n#"} {
		for range 4000 {
			b := make([]byte, r.Intn(12))
			for i := range b {
				b[i] = few[r.Intn(len(few))]
			}
			checkScan(t, string(b))
		}
	}
}

// Every text is read: any bytes give tokens or one fault at a place of the text.
func TestScanAnyBytes(t *testing.T) {
	r := rand.New(rand.NewSource(3))
	for _, front := range []string{"", "#", "a #", `"`, `1 "\4`, "a"} {
		for range 4000 {
			b := make([]byte, r.Intn(20))
			for i := range b {
				b[i] = byte(r.Intn(256))
			}
			src := front + string(b)
			got, f := impl.Scan(src)
			if f.Code != 0 && (f.Code < 2 || f.Code > 5 || f.At < 0 || f.At >= len(src) || len(got) != 0) {
				t.Fatalf("%q: %#v %+v", src, got, f)
			}
			checkScan(t, src)
		}
	}
}
