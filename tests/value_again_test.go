package tests

import (
	"math"
	"math/big"
	"math/rand"
	"regexp"
	"slices"
	"strings"
	"testing"

	"loop.example/kilnmill/impl"
)

// A second way to reckon: with numbers that have no width, taken into a type at the end.

func bitsOf(typ int) uint {
	return []uint{0, 0, 0, 8, 16, 32, 64, 8, 16, 32, 64}[typ]
}

// bigOf is the number that a value stands for.
func bigOf(v impl.Value) *big.Int {
	n := big.NewInt(v.N)
	if v.Type == impl.TypeU64 && v.N < 0 {
		n.Add(n, new(big.Int).Lsh(big.NewInt(1), 64))
	}
	return n
}

// valueOf is the value of a type with the lowest bits of a number.
func valueOf(typ int, n *big.Int) impl.Value {
	whole := new(big.Int).Lsh(big.NewInt(1), bitsOf(typ))
	low := new(big.Int).Mod(n, whole)
	half := new(big.Int).Rsh(whole, 1)
	// An N of 64 bits without sign is written as the one with sign that has the same bits.
	if (typ >= impl.TypeI8 || typ == impl.TypeU64) && low.Cmp(half) >= 0 {
		low.Sub(low, whole)
	}
	return vInt(typ, low.Int64())
}

func isModelValid(v impl.Value) bool {
	switch v.Type {
	case impl.TypeBool:
		return v == vBool(false) || v == vBool(true)
	case impl.TypeText:
		return v == vText(v.Text) && len(v.Text) <= 3000
	}
	return v.Type >= impl.TypeU8 && v.Type <= impl.TypeI64 && v == valueOf(v.Type, big.NewInt(v.N))
}

func modelUnary(op int, a impl.Value) (impl.Value, string) {
	if op < 1 || op > 3 || !isModelValid(a) || rowGives(unRows[op], []int{a.Type}) == impl.TypeNone {
		return impl.Value{}, "type"
	}
	minus := new(big.Int).Neg(bigOf(a))
	switch op {
	case impl.OpNot:
		return vInt(impl.TypeBool, 1-a.N), ""
	case impl.OpNeg:
		return valueOf(a.Type, minus), ""
	}
	return valueOf(a.Type, minus.Sub(minus, big.NewInt(1))), ""
}

func modelBinary(op int, a, b impl.Value) (impl.Value, string) {
	if op < 1 || op > 18 || !isModelValid(a) || !isModelValid(b) || rowGives(binRows[op], []int{a.Type, b.Type}) == impl.TypeNone {
		return impl.Value{}, "type"
	}
	switch {
	case op == impl.OpOr:
		return vBool(a.N+b.N > 0), ""
	case op == impl.OpAnd:
		return vBool(a.N+b.N == 2), ""
	case op <= impl.OpLeast:
		sign := bigOf(a).Cmp(bigOf(b))
		if a.Type == impl.TypeText {
			sign = textSign(a.Text, b.Text)
		}
		signs := [][]int{{0}, {-1, 1}, {-1}, {-1, 0}, {1}, {0, 1}}[op-impl.OpSame]
		return vBool(slices.Contains(signs, sign)), ""
	case a.Type == impl.TypeText:
		if len(a.Text)+len(b.Text) > 3000 {
			return impl.Value{}, "long"
		}
		return vText(strings.Join([]string{a.Text, b.Text}, "")), ""
	}
	return modelReckoned(op, a, b)
}

func textSign(a, b string) int {
	for i := 0; i < len(a) && i < len(b); i++ {
		if a[i] != b[i] {
			return big.NewInt(int64(a[i])).Cmp(big.NewInt(int64(b[i])))
		}
	}
	return big.NewInt(int64(len(a))).Cmp(big.NewInt(int64(len(b))))
}

func modelReckoned(op int, a, b impl.Value) (impl.Value, string) {
	x, y, z := bigOf(a), bigOf(b), new(big.Int)
	switch op {
	case impl.OpAdd:
		z.Add(x, y)
	case impl.OpSub:
		z.Sub(x, y)
	case impl.OpSet:
		z.Or(x, y)
	case impl.OpXor:
		z.Xor(x, y)
	case impl.OpMul:
		z.Mul(x, y)
	case impl.OpMask:
		z.And(x, y)
	case impl.OpDiv, impl.OpRem:
		if y.Sign() == 0 {
			return impl.Value{}, "divide"
		}
		left := new(big.Int)
		z.QuoRem(x, y, left)
		if op == impl.OpRem {
			z = left
		}
	case impl.OpLeft, impl.OpRight:
		by := bitsOf(a.Type)
		if y.Sign() >= 0 && y.Cmp(big.NewInt(int64(by))) < 0 {
			by = uint(y.Uint64())
		}
		if op == impl.OpLeft {
			z.Lsh(x, by)
		} else {
			z.Rsh(x, by)
		}
	}
	return valueOf(a.Type, z), ""
}

func modelConvert(a impl.Value, to int) (impl.Value, string) {
	if !isModelValid(a) || a.Type < impl.TypeU8 || to < impl.TypeU8 || to > impl.TypeI64 {
		return impl.Value{}, "type"
	}
	return valueOf(to, bigOf(a)), ""
}

var decimalForm = regexp.MustCompile(`^(0|-?[1-9][0-9]*)$`)

func modelBuilt(op int, args []impl.Value) (impl.Value, string) {
	var types []int
	for _, arg := range args {
		if !isModelValid(arg) {
			return impl.Value{}, "type"
		}
		types = append(types, arg.Type)
	}
	if op < impl.BuiltLen || op > impl.BuiltNum || rowGives(builtRows[op], types) == impl.TypeNone {
		return impl.Value{}, "type"
	}
	switch op {
	case impl.BuiltLen:
		return vI64(int64(len(args[0].Text))), ""
	case impl.BuiltAt:
		for i, b := range []byte(args[0].Text) {
			if int64(i) == args[1].N {
				return vInt(impl.TypeU8, int64(b)), ""
			}
		}
		return impl.Value{}, "range"
	case impl.BuiltCut:
		return modelCut(args[0].Text, args[1].N, args[2].N)
	case impl.BuiltFind:
		for i := 0; i+len(args[1].Text) <= len(args[0].Text); i++ {
			if strings.HasPrefix(args[0].Text[i:], args[1].Text) {
				return vI64(int64(i)), ""
			}
		}
		return vI64(-1), ""
	case impl.BuiltChr:
		return vText(string([]byte{byte(args[0].N)})), ""
	case impl.BuiltDec:
		return vText(bigOf(args[0]).String()), ""
	}
	n, ok := new(big.Int).SetString(args[0].Text, 10)
	if !ok || !decimalForm.MatchString(args[0].Text) || !n.IsInt64() {
		return impl.Value{}, "number"
	}
	return vI64(n.Int64()), ""
}

func modelCut(text string, i, j int64) (impl.Value, string) {
	if i < 0 || j < i || int64(len(text)) < j {
		return impl.Value{}, "range"
	}
	var kept []byte
	for k := i; k < j; k++ {
		kept = append(kept, text[k])
	}
	return vText(string(kept)), ""
}

// wantSame: what was got is what the second way gives, valid, and of the type that the document's row gives.
func wantSame(t *testing.T, call []any, got impl.Value, word string, want impl.Value, wantWord string, gives int) {
	t.Helper()
	if got != want || word != wantWord {
		t.Fatalf("%.200v: %.80v %q, want %.80v %q", call, got, word, want, wantWord)
	}
	if word == "" && (!impl.ValidValue(got) || got.Type != gives) {
		t.Fatalf("%.200v: %.80v is not valid or not of type %d", call, got, gives)
	}
	if word != "" && !slices.Contains([]string{"type", "divide", "long", "range", "number"}, word) {
		t.Fatalf("%.200v: no word of the document: %q", call, word)
	}
}

func checkUnary(t *testing.T, op int, a impl.Value) {
	got, word := impl.Unary(op, a)
	want, wantWord := modelUnary(op, a)
	wantSame(t, []any{"Unary", op, a}, got, word, want, wantWord, a.Type)
}

func checkBinary(t *testing.T, op int, a, b impl.Value) {
	got, word := impl.Binary(op, a, b)
	want, wantWord := modelBinary(op, a, b)
	gives := impl.TypeBool
	if op >= impl.OpAdd {
		gives = a.Type
	}
	wantSame(t, []any{"Binary", op, a, b}, got, word, want, wantWord, gives)
}

func checkConvert(t *testing.T, a impl.Value, to int) {
	got, word := impl.Convert(a, to)
	want, wantWord := modelConvert(a, to)
	wantSame(t, []any{"Convert", a, to}, got, word, want, wantWord, to)
}

func checkBuilt(t *testing.T, op int, args []impl.Value) {
	got, word := impl.Built(op, args)
	want, wantWord := modelBuilt(op, args)
	gives := impl.TypeNone
	if op >= impl.BuiltRead && op <= impl.BuiltNum {
		row := strings.Fields(builtRows[op])
		gives = slices.Index(typeWords, row[len(row)-1])
	}
	wantSame(t, []any{"Built", op, args}, got, word, want, wantWord, gives)
}

// edgeNumbers are numbers at and beside the ends of all widths.
func edgeNumbers() []int64 {
	list := []int64{0, 1, 2, 3, 5, 7, 10, -1, -2, -3, -7, math.MinInt64, math.MinInt64 + 1, math.MaxInt64, math.MaxInt64 - 1}
	for _, bits := range []uint{3, 4, 5, 6, 7, 8, 15, 16, 31, 32, 62} {
		for _, n := range []int64{1<<bits - 1, 1 << bits, 1<<bits + 1} {
			list = append(list, n, -n)
		}
	}
	return list
}

// edgeValues are the values of a type at which something turns.
func edgeValues(typ int) []impl.Value {
	var list []impl.Value
	switch typ {
	case impl.TypeBool:
		return []impl.Value{vBool(false), vBool(true)}
	case impl.TypeText:
		for _, text := range []string{"", "\x00", "0", "-1", "7", "a", "ab", "b", "\xff", xs(1500), xs(1501), xs(2999), xs(3000)} {
			list = append(list, vText(text))
		}
		return list
	}
	for _, n := range edgeNumbers() {
		v := valueOf(typ, big.NewInt(n))
		if !slices.Contains(list, v) {
			list = append(list, v)
		}
	}
	return list
}

// TestEdges: every Op between all values at which something turns, of one type.
func TestEdges(t *testing.T) {
	for typ := impl.TypeBool; typ <= impl.TypeI64; typ++ {
		values := edgeValues(typ)
		for _, a := range values {
			for op := -1; op <= 4; op++ {
				checkUnary(t, op, a)
			}
			for to := -1; to <= 12; to++ {
				checkConvert(t, a, to)
			}
			for _, b := range values {
				for op := -1; op <= 20; op++ {
					checkBinary(t, op, a, b)
				}
			}
		}
	}
}

// TestEightBits: every Op that gives a number, between all numbers of the types of eight bits.
func TestEightBits(t *testing.T) {
	for _, typ := range []int{impl.TypeU8, impl.TypeI8} {
		var all []impl.Value
		for n := range int64(256) {
			all = append(all, valueOf(typ, big.NewInt(n)))
		}
		for _, a := range all {
			for _, b := range all {
				for op := impl.OpAdd; op <= impl.OpRight; op++ {
					got, word := impl.Binary(op, a, b)
					want, wantWord := modelReckoned(op, a, b)
					if got != want || word != wantWord {
						t.Fatalf("%v %s %v: %v %q, want %v %q", a, binMarks[op], b, got, word, want, wantWord)
					}
				}
			}
			for op := impl.OpNeg; op <= impl.OpInv; op++ {
				checkUnary(t, op, a)
			}
		}
	}
}

// TestAllTypes: every Op and word with kids of all types, as many as it has, fewer and more.
func TestAllTypes(t *testing.T) {
	samples := [][]impl.Value{{{}, {N: 1}}}
	for typ := impl.TypeBool; typ <= impl.TypeI64; typ++ {
		right := edgeValues(typ)
		samples = append(samples, right[:2])
	}
	samples = append(samples, []impl.Value{vInt(11, 0), vInt(11, 1)})
	for _, a := range slices.Concat(samples...) {
		for op := -1; op <= 13; op++ {
			checkUnary(t, op, a)
			checkBuilt(t, op, []impl.Value{a})
		}
		for _, b := range slices.Concat(samples...) {
			for op := -1; op <= 19; op++ {
				checkBinary(t, op, a, b)
				checkBuilt(t, op, []impl.Value{a, b})
				checkBuilt(t, op, []impl.Value{vText("ab"), a, b})
				checkBuilt(t, op, []impl.Value{a, vI64(0), b})
				checkBuilt(t, op, []impl.Value{a, b, vI64(1)})
				checkBuilt(t, op, []impl.Value{a, b, a, b})
			}
		}
	}
	for op := -1; op <= 13; op++ {
		checkBuilt(t, op, nil)
	}
}

// anyValue is mostly a valid value.
func anyValue(r *rand.Rand) impl.Value {
	typ := r.Intn(13) - 1
	n := int64(r.Uint64()) >> r.Intn(64)
	switch {
	case typ == impl.TypeText || r.Intn(3) == 0:
		return vText(anyText(r))
	case typ == impl.TypeBool:
		return vInt(typ, int64(r.Intn(20)/9))
	case typ >= impl.TypeU8 && typ <= impl.TypeI64 && r.Intn(8) > 0:
		return valueOf(typ, big.NewInt(n))
	}
	return vInt(typ, n)
}

func anyText(r *rand.Rand) string {
	letters := []string{"ab", "0123456789-", "\x00\x7f\x80\xff\n\"", "09"}[r.Intn(4)]
	size := r.Intn(8)
	switch r.Intn(12) {
	case 0:
		size = r.Intn(25)
	case 1:
		size = 1490 + r.Intn(20)
	case 2:
		size = 2990 + r.Intn(15)
	}
	text := make([]byte, size)
	for i := range text {
		text[i] = letters[r.Intn(len(letters))]
	}
	return string(text)
}

func TestMadeValues(t *testing.T) {
	r := rand.New(rand.NewSource(4))
	for range 100000 {
		a, b := anyValue(r), anyValue(r)
		if a.Type != impl.TypeText && r.Intn(4) > 0 {
			b = vInt(a.Type, int64(r.Uint64())>>r.Intn(64))
		}
		if a.Type >= impl.TypeU8 && a.Type == b.Type && a.Type <= impl.TypeI64 {
			b = valueOf(b.Type, big.NewInt(b.N))
		}
		if impl.ValidValue(a) != isModelValid(a) {
			t.Fatalf("ValidValue of %.80v", a)
		}
		checkUnary(t, r.Intn(5), a)
		checkBinary(t, r.Intn(20), a, b)
		checkConvert(t, a, r.Intn(12))
	}
}

func TestMadeBuilts(t *testing.T) {
	r := rand.New(rand.NewSource(44))
	place := func(text string) impl.Value { return vI64(int64(r.Intn(len(text)+5) - 2)) }
	for range 30000 {
		text, part := anyText(r), anyText(r)
		checkBuilt(t, impl.BuiltLen, []impl.Value{vText(text)})
		checkBuilt(t, impl.BuiltAt, []impl.Value{vText(text), place(text)})
		checkBuilt(t, impl.BuiltCut, []impl.Value{vText(text), place(text), place(text)})
		checkBuilt(t, impl.BuiltFind, []impl.Value{vText(text), vText(part[:min(len(part), r.Intn(4))])})
		checkBuilt(t, impl.BuiltFind, []impl.Value{vText(text), vText(part)})
		checkBuilt(t, impl.BuiltNum, []impl.Value{vText(text)})
		checkBuilt(t, r.Intn(15), []impl.Value{anyValue(r), anyValue(r), anyValue(r)}[:r.Intn(4)])
		number := valueOf(3+r.Intn(8), big.NewInt(int64(r.Uint64())>>r.Intn(64)))
		checkBuilt(t, impl.BuiltDec, []impl.Value{number})
	}
}

// TestNumOfDec: num reads what dec writes, and nothing near it.
func TestNumOfDec(t *testing.T) {
	r := rand.New(rand.NewSource(444))
	numbers := edgeNumbers()
	for range 20000 {
		numbers = append(numbers, int64(r.Uint64())>>r.Intn(64))
	}
	for _, n := range numbers {
		dec, word := impl.Built(impl.BuiltDec, []impl.Value{vI64(n)})
		wantValue(t, "dec", dec, word, vText(big.NewInt(n).String()), "")
		num, word := impl.Built(impl.BuiltNum, []impl.Value{dec})
		wantValue(t, "num", num, word, vI64(n), "")
		for _, near := range []string{"0" + dec.Text, "+" + dec.Text, dec.Text + " ", " " + dec.Text, "-0" + dec.Text} {
			checkBuilt(t, impl.BuiltNum, []impl.Value{vText(near)})
		}
	}
}
