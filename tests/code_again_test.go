package tests

import (
	"encoding/binary"
	"fmt"
	"math"
	"math/rand"
	"reflect"
	"slices"
	"strings"
	"testing"

	"loop.example/kilnmill/impl"
)

// What A is, by Op, as the document's table has it.
var usesOfA = strings.Split("no,type,slot,slot,no,un,bin,int,built,fn,place,place,result,no,no,no,no", ",")

// modelA says whether a number is such an A.
func modelA(c impl.Code, fn impl.Fn, uses string, a int) bool {
	from, to := 0, 0
	switch uses {
	case "slot":
		to = fn.Slots - 1
	case "un":
		from, to = 1, 3
	case "bin":
		from, to = 3, 18
	case "int":
		from, to = 3, 10
	case "built":
		from, to = 1, 12
	case "fn":
		to = len(c.Fns) - 1
	case "place":
		to = len(fn.Ins)
	case "result":
		if fn.Result != 0 {
			from, to = 1, 1
		}
	}
	return from <= a && a <= to
}

func modelInsRight(c impl.Code, fn impl.Fn, ins impl.Ins) bool {
	if ins.Op < 1 || ins.Op > 16 {
		return false
	}
	if ins.Op == 1 {
		return isModelValid(impl.Value{Type: ins.A, N: ins.N, Text: ins.Text})
	}
	return ins.N == 0 && ins.Text == "" && modelA(c, fn, usesOfA[ins.Op], ins.A)
}

func modelFnRight(c impl.Code, f int) bool {
	fn := c.Fns[f]
	for _, earlier := range c.Fns[:f] {
		if earlier.Name == fn.Name {
			return false
		}
	}
	for _, param := range fn.Params {
		if param < 1 || param > 10 {
			return false
		}
	}
	return goodName(fn.Name) && len(fn.Params) <= 8 && fn.Result >= 0 && fn.Result <= 10 &&
		len(fn.Params) <= fn.Slots && fn.Slots <= 200 && len(fn.Ins) >= 1 && len(fn.Ins) <= 50000
}

// modelFlaw is CheckCode, but for code 5.
func modelFlaw(c impl.Code) [3]int {
	if len(c.Fns) < 1 || len(c.Fns) > 60 {
		return [3]int{1, 0, 0}
	}
	for f := range c.Fns {
		if !modelFnRight(c, f) {
			return [3]int{2, f, 0}
		}
	}
	main := false
	for f, fn := range c.Fns {
		for i, ins := range fn.Ins {
			if !modelInsRight(c, fn, ins) {
				return [3]int{3, f, i}
			}
		}
		main = main || fn.Name == "main" && len(fn.Params) == 0 && fn.Result == impl.TypeText
	}
	if !main {
		return [3]int{4, 0, 0}
	}
	return [3]int{}
}

var rowsGive = map[string]int{}

// modelGives remembers what rowGives says.
func modelGives(rows string, kids []int) int {
	key := fmt.Sprint(rows, kids)
	gives, ok := rowsGive[key]
	if !ok {
		gives = rowGives(rows, kids)
		rowsGive[key] = gives
	}
	return gives
}

// modelTakes is how many values an instruction takes.
func modelTakes(c impl.Code, ins impl.Ins) int {
	switch ins.Op {
	case impl.InsBuilt:
		return builtKids[ins.A]
	case impl.InsCall:
		return len(c.Fns[ins.A].Params)
	case impl.InsReturn:
		return ins.A
	}
	return []int{0, 0, 0, 1, 1, 1, 2, 1, 0, 0, 0, 1, 0, 1, 2, 1, 0}[ins.Op]
}

// modelPuts is what an instruction puts for what it takes; it is false if it does not take that.
func modelPuts(c impl.Code, fn impl.Fn, ins impl.Ins, slots, taken []int) ([]int, bool) {
	all := func(want ...int) bool { return slices.Equal(taken, want) }
	one := func(gives int) ([]int, bool) { return []int{gives}, gives != 0 }
	switch ins.Op {
	case impl.InsPush:
		return one(ins.A)
	case impl.InsLoad:
		return one(slots[ins.A])
	case impl.InsUn:
		return one(modelGives(unRows[ins.A], taken))
	case impl.InsBin:
		return one(modelGives(binRows[ins.A], taken))
	case impl.InsConv:
		return []int{ins.A}, taken[0] >= 3
	case impl.InsBuilt:
		return one(modelGives(builtRows[ins.A], taken))
	case impl.InsCall:
		if g := c.Fns[ins.A]; g.Result != 0 {
			return []int{g.Result}, all(g.Params...)
		}
		return nil, all(c.Fns[ins.A].Params...)
	case impl.InsUnless:
		return nil, all(impl.TypeBool)
	case impl.InsReturn:
		return nil, ins.A == 0 || all(fn.Result)
	case impl.InsFail, impl.InsSay:
		return nil, all(impl.TypeText)
	case impl.InsWrite:
		return nil, all(impl.TypeText, impl.TypeText)
	}
	return nil, true
}

func modelWays(ins impl.Ins, at int) []int {
	switch ins.Op {
	case impl.InsReturn, impl.InsFail:
		return nil
	case impl.InsJump:
		return []int{ins.A}
	case impl.InsUnless:
		return []int{at + 1, ins.A}
	}
	return []int{at + 1}
}

// modelLeaves is what a place with State 1 leaves, State 2 if it is unfit.
func modelLeaves(c impl.Code, fn impl.Fn, at int, s impl.Shape) impl.Shape {
	ins := fn.Ins[at]
	rest := len(s.Stack) - modelTakes(c, ins)
	if rest < 0 || slices.Contains(modelWays(ins, at), len(fn.Ins)) {
		return impl.Shape{State: 2}
	}
	taken := s.Stack[rest:]
	puts, ok := modelPuts(c, fn, ins, s.Slots, taken)
	stack := slices.Concat(s.Stack[:rest], puts)
	if !ok || len(stack) > 600 {
		return impl.Shape{State: 2}
	}
	slots := slices.Clone(s.Slots)
	if ins.Op == impl.InsStore {
		slots[ins.A] = taken[0]
	}
	return impl.Shape{State: 1, Slots: slots, Stack: stack}
}

// modelMeets is what lies where two shapes come together.
func modelMeets(a, b impl.Shape) impl.Shape {
	if a.State == 0 {
		return b
	}
	if a.State == 2 || b.State == 2 || !slices.Equal(a.Stack, b.Stack) {
		return impl.Shape{State: 2}
	}
	slots := make([]int, len(a.Slots))
	for i := range slots {
		if a.Slots[i] == b.Slots[i] {
			slots[i] = a.Slots[i]
		}
	}
	return impl.Shape{State: 1, Slots: slots, Stack: a.Stack}
}

func sameShape(a, b impl.Shape) bool {
	return a.State == b.State && slices.Equal(a.Slots, b.Slots) && slices.Equal(a.Stack, b.Stack)
}

// modelShapes goes through all places again and again, until nothing changes any more; it says which places are unfit, too.
func modelShapes(c impl.Code, f int) ([]impl.Shape, []bool) {
	fn := c.Fns[f]
	shapes, unfit := make([]impl.Shape, len(fn.Ins)), make([]bool, len(fn.Ins))
	shapes[0] = impl.Shape{State: 1, Slots: append(slices.Clone(fn.Params), make([]int, fn.Slots-len(fn.Params))...)}
	for changed := true; changed; {
		changed = false
		for at, s := range shapes {
			if s.State == 0 {
				continue
			}
			left := impl.Shape{State: 2}
			if s.State == 1 {
				left = modelLeaves(c, fn, at, s)
			}
			unfit[at] = left.State == 2
			for _, to := range modelWays(fn.Ins[at], at) {
				if to < len(shapes) {
					met := modelMeets(shapes[to], left)
					changed = changed || !sameShape(met, shapes[to])
					shapes[to] = met
				}
			}
		}
	}
	return shapes, unfit
}

// The second way is too slow for greater functions.
const modelIns = 3000

func isModelled(c impl.Code) bool {
	for _, fn := range c.Fns {
		if len(fn.Ins) > modelIns {
			return false
		}
	}
	return true
}

// formPiece is a number of a form, or bytes of a text.
type formPiece struct {
	isNumber bool
	n        uint64
	text     string
}

// modelPieces are those of a form behind mill1.
func modelPieces(c impl.Code) []formPiece {
	var list []formPiece
	number := func(n int) { list = append(list, formPiece{isNumber: true, n: uint64(n)}) }
	text := func(s string) { number(len(s)); list = append(list, formPiece{text: s}) }
	number(len(c.Fns))
	for _, fn := range c.Fns {
		text(fn.Name)
		number(len(fn.Params))
		for _, param := range fn.Params {
			number(param)
		}
		number(fn.Result)
		number(fn.Slots)
		number(len(fn.Ins))
		for _, ins := range fn.Ins {
			number(ins.Op)
			if usesOfA[ins.Op] != "no" {
				number(ins.A)
			}
			if ins.Op == 1 && ins.A == impl.TypeText {
				text(ins.Text)
			} else if ins.Op == 1 {
				number(int(ins.N))
			}
		}
	}
	return list
}

func formOf(pieces []formPiece) string {
	form := []byte("mill1")
	for _, p := range pieces {
		if p.isNumber {
			form = binary.AppendUvarint(form, p.n)
		}
		form = append(form, p.text...)
	}
	return string(form)
}

// modelRead reads a form as loosely as can be, and takes the code if its form is the text.
func modelRead(s string) (c impl.Code, ok bool) {
	defer func() {
		if recover() != nil {
			c, ok = impl.Code{}, false
		}
	}()
	rest := []byte(s)[5:]
	number := func() int {
		n, size := binary.Uvarint(rest)
		if size <= 0 {
			panic("no number")
		}
		rest = rest[size:]
		return int(n)
	}
	text := func() string {
		size := number()
		read := string(rest[:size])
		rest = rest[size:]
		return read
	}
	for range number() {
		fn := impl.Fn{Name: text()}
		for range number() {
			fn.Params = append(fn.Params, number())
		}
		fn.Result, fn.Slots = number(), number()
		for range number() {
			ins := impl.Ins{Op: number()}
			if usesOfA[ins.Op] != "no" {
				ins.A = number()
			}
			if ins.Op == 1 && ins.A == impl.TypeText {
				ins.Text = text()
			} else if ins.Op == 1 {
				ins.N = int64(number())
			}
			fn.Ins = append(fn.Ins, ins)
		}
		c.Fns = append(c.Fns, fn)
	}
	if len(s) > 200000 || modelCheckCode(c) != [3]int{} || formOf(modelPieces(c)) != s {
		return impl.Code{}, false
	}
	return c, true
}

func modelCheckCode(c impl.Code) [3]int {
	if flaw := modelFlaw(c); flaw != [3]int{} {
		return flaw
	}
	for f := range c.Fns {
		_, unfit := modelShapes(c, f)
		if at := slices.Index(unfit, true); at >= 0 {
			return [3]int{5, f, at}
		}
	}
	return [3]int{}
}

// sameCode: the empty list and the nil list are the same.
func sameCode(a, b impl.Code) bool {
	return slices.EqualFunc(a.Fns, b.Fns, func(f, g impl.Fn) bool {
		return f.Name == g.Name && slices.Equal(f.Params, g.Params) && f.Result == g.Result && f.Slots == g.Slots && slices.Equal(f.Ins, g.Ins)
	})
}

// checkCode holds all functions of the chapter against the second way, and gives what CheckCode does.
func checkCode(t *testing.T, c impl.Code) [3]int {
	t.Helper()
	var got [3]int
	got[0], got[1], got[2] = impl.CheckCode(c)
	flaw := modelFlaw(c)
	if flaw != [3]int{} && got != flaw || flaw == [3]int{} && got[0] != 0 && got[0] != 5 {
		t.Errorf("%v: %v, want %v", c, got, flaw)
	}
	if flaw == [3]int{} && isModelled(c) {
		if want := modelCheckCode(c); got != want {
			t.Errorf("%v: %v, want %v", c, got, want)
		}
		for f := range c.Fns {
			want, _ := modelShapes(c, f)
			if s := impl.Shapes(c, f); !slices.EqualFunc(s, want, sameShape) {
				t.Errorf("%v: %v, want %v", c.Fns[f], s, want)
			}
		}
	}
	checkForm(t, c, got[0] == 0)
	return got
}

// checkForm: the form of a valid code is written and read again, that of another is not.
func checkForm(t *testing.T, c impl.Code, valid bool) {
	t.Helper()
	got, want := impl.WriteCode(c), ""
	if valid {
		want = formOf(modelPieces(c))
	}
	if len(want) > impl.MaxBytes {
		want = ""
	}
	if got != want {
		t.Errorf("%v: %q, want %q", c, got, want)
	}
	read, ok := impl.ReadCode(got)
	if ok != (want != "") || ok && !sameCode(read, c) || !ok && !reflect.DeepEqual(read, impl.Code{}) {
		t.Errorf("%v: read as %v, %v", c, read, ok)
	}
}

// coder makes codes by chance. What lies on the stack at the end of what it has made so far is known to it, but for what comes from elsewhere.
type coder struct {
	*rand.Rand
	code impl.Code
	fn   impl.Fn
	// wrong is how many of 1000 instructions are made without looking.
	wrong int
	slots []int
	stack []int
	// stacks are those ahead of each place; open are the places whose A is still to be set, with the stack that is to lie there.
	stacks [][]int
	open   map[int][]int
}

func (m *coder) put(ins impl.Ins, takes int, puts ...int) {
	m.stacks = append(m.stacks, slices.Clone(m.stack))
	m.fn.Ins = append(m.fn.Ins, ins)
	m.stack = append(m.stack[:len(m.stack)-takes:len(m.stack)-takes], puts...)
}

func (m *coder) push(typ int) {
	values := edgeValues(typ)
	m.put(cPush(values[m.Intn(len(values))%7]), 0, typ)
}

// value puts a value of a type there, by this many instructions or a few more.
func (m *coder) value(typ, depth int) {
	if depth > 0 && m.Intn(3) > 0 && m.made(typ, depth-1) {
		return
	}
	for range 4 {
		if slot := m.Intn(len(m.slots) + 1); slot < len(m.slots) && m.slots[slot] == typ {
			m.put(cOp(impl.InsLoad, slot), 0, typ)
			return
		}
	}
	m.push(typ)
}

// made puts a value that is made of others; it is false if it finds no way to.
func (m *coder) made(typ, depth int) bool {
	switch m.Intn(5) {
	case 0:
		op := 1 + m.Intn(3)
		if modelGives(unRows[op], []int{typ}) != typ {
			return false
		}
		m.value(typ, depth)
		m.put(cOp(impl.InsUn, op), 1, typ)
	case 1:
		op, kid := 3+m.Intn(16), 1+m.Intn(10)
		if modelGives(binRows[op], []int{kid, kid}) != typ {
			return false
		}
		m.value(kid, depth)
		m.value(kid, depth)
		m.put(cOp(impl.InsBin, op), 2, typ)
	case 2:
		if typ < impl.TypeU8 {
			return false
		}
		m.value(3+m.Intn(8), depth)
		m.put(cOp(impl.InsConv, typ), 1, typ)
	case 3:
		op := 1 + m.Intn(12)
		words := strings.Fields(strings.ReplaceAll(builtRows[op], "I", typeWords[3+m.Intn(8)]))
		if words[len(words)-1] != typeWords[typ] {
			return false
		}
		for _, kid := range words[:len(words)-1] {
			m.value(slices.Index(typeWords, kid), depth)
		}
		m.put(cOp(impl.InsBuilt, op), len(words)-1, typ)
	default:
		return m.call(typ, depth)
	}
	return true
}

func (m *coder) call(typ, depth int) bool {
	f := m.Intn(len(m.code.Fns))
	if m.code.Fns[f].Result != typ {
		return false
	}
	for _, param := range m.code.Fns[f].Params {
		m.value(param, depth)
	}
	if typ == 0 {
		m.put(cOp(impl.InsCall, f), len(m.code.Fns[f].Params))
	} else {
		m.put(cOp(impl.InsCall, f), len(m.code.Fns[f].Params), typ)
	}
	return true
}

// some puts some instructions that leave what they find, or nearly so.
func (m *coder) some() {
	switch m.Intn(12) {
	case 0, 1, 2:
		m.store()
	case 3:
		m.value(1+m.Intn(10), 2)
	case 4:
		if len(m.stack) > 0 {
			m.put(cOp(impl.InsDrop, 0), 1)
		}
	case 5:
		m.call(0, 1)
	case 6:
		m.value(2, 1)
		m.value(2, 1)
		m.put(cOp(impl.InsWrite, 0), 2)
	case 7:
		m.value(2, 2)
		m.put(cOp(impl.InsSay, 0), 1)
	case 8:
		m.put(cOp(impl.InsStep, 0), 0)
	default:
		m.branch()
	}
}

func (m *coder) store() {
	if len(m.slots) == 0 {
		return
	}
	slot := m.Intn(len(m.slots))
	typ := m.slots[slot]
	if typ == 0 || m.Intn(6) == 0 {
		typ = 1 + m.Intn(10)
	}
	m.value(typ, 2)
	m.put(cOp(impl.InsStore, slot), 1)
	m.slots[slot] = typ
}

// branch goes back to where the same lies, or ahead to where it will.
func (m *coder) branch() {
	m.value(1, 1)
	below := slices.Clone(m.stack[:len(m.stack)-1])
	at := len(m.fn.Ins)
	m.put(cOp(impl.InsUnless, 0), 1)
	for range 5 {
		if to := m.Intn(at + 1); m.Intn(3) == 0 && to < at && slices.Equal(m.stacks[to], below) {
			m.fn.Ins[at].A = to
			return
		}
	}
	m.open[at] = below
}

// close sets the As that are open for which the right thing lies here.
func (m *coder) close() {
	for at, below := range m.open {
		if slices.Equal(below, m.stack) {
			m.fn.Ins[at].A = len(m.fn.Ins)
			delete(m.open, at)
		}
	}
}

// leave ends the way so far, by going elsewhere or by an end.
func (m *coder) leave() {
	switch m.Intn(4) {
	case 0:
		m.value(2, 1)
		m.put(cOp(impl.InsFail, 0), 1)
		return
	case 1:
		for range 5 {
			if to := m.Intn(len(m.fn.Ins) + 1); to < len(m.fn.Ins) && slices.Equal(m.stacks[to], m.stack) {
				m.put(cOp(impl.InsJump, to), 0)
				return
			}
		}
	}
	if m.fn.Result == 0 {
		m.put(cOp(impl.InsReturn, 0), 0)
		return
	}
	m.value(m.fn.Result, 2)
	m.put(cOp(impl.InsReturn, 1), 1)
}

// filled makes the instructions of a function.
func (m *coder) filled(fn impl.Fn, size int) impl.Fn {
	m.fn, m.stack, m.stacks, m.open = fn, nil, nil, map[int][]int{}
	m.slots = append(slices.Clone(fn.Params), make([]int, fn.Slots-len(fn.Params))...)
	for len(m.fn.Ins) < size {
		if m.Intn(1000) < m.wrong {
			m.put(m.any(), 0)
		}
		m.some()
		if m.Intn(4) == 0 {
			m.close()
		}
		if m.Intn(25) == 0 && len(m.open) > 0 {
			m.ahead()
		}
	}
	m.leave()
	for len(m.open) > 0 {
		for _, at := range sortedKeys(m.open) {
			m.stack = m.open[at]
			break
		}
		m.close()
		m.leave()
	}
	return m.fn
}

func sortedKeys(of map[int][]int) []int {
	var keys []int
	for key := range of {
		keys = append(keys, key)
	}
	slices.Sort(keys)
	return keys
}

// ahead leaves the way so far, and goes on at a place that is open.
func (m *coder) ahead() {
	m.leave()
	keys := sortedKeys(m.open)
	m.stack = m.open[keys[m.Intn(len(keys))]]
	m.close()
}

// any is an instruction that is right by itself, or nearly so.
func (m *coder) any() impl.Ins {
	op := 1 + m.Intn(16)
	switch {
	case op == 1:
		return cOf(1 + m.Intn(10))
	case usesOfA[op] == "no" || usesOfA[op] == "result" && m.fn.Result == 0:
		return cOp(op, 0)
	case usesOfA[op] == "result":
		return cOp(op, 1)
	case usesOfA[op] == "slot":
		return cOp(op, m.Intn(m.fn.Slots+1))
	}
	return cOp(op, m.Intn(20))
}

func (m *coder) program(size int) impl.Code {
	m.code = cCode(cMain(m.Intn(4)))
	for i := range m.Intn(4) {
		fn := cFn(madeNames[i], nil, m.Intn(11), m.Intn(5))
		for len(fn.Params) < fn.Slots && m.Intn(3) > 0 {
			fn.Params = append(fn.Params, 1+m.Intn(10))
		}
		m.code.Fns = append(m.code.Fns, fn)
	}
	for f, fn := range m.code.Fns {
		m.code.Fns[f] = m.filled(fn, 1+m.Intn(size))
	}
	return m.code
}

// bend changes something in a code, which may go wrong by it.
func (m *coder) bend(c impl.Code) impl.Code {
	f := m.Intn(len(c.Fns))
	c = impl.Code{Fns: slices.Clone(c.Fns)}
	fn := &c.Fns[f]
	fn.Ins, fn.Params = slices.Clone(fn.Ins), slices.Clone(fn.Params)
	at := m.Intn(len(fn.Ins))
	m.fn = *fn
	switch m.Intn(12) {
	case 0:
		fn.Ins[at] = m.any()
	case 1:
		fn.Ins = slices.Delete(fn.Ins, at, at+1)
	case 2:
		fn.Ins = slices.Insert(fn.Ins, at, m.any())
	case 3:
		fn.Ins[at].A += m.Intn(3) - 1
	case 4:
		fn.Ins[at].A = m.Intn(len(fn.Ins) + 2)
	case 5:
		fn.Ins[at].N += int64(m.Intn(3) - 1)
	case 6:
		fn.Ins[at].Op = m.Intn(18)
	case 7:
		fn.Result = m.Intn(12)
	case 8:
		fn.Params = append(fn.Params, m.Intn(12))
	case 9:
		fn.Slots += m.Intn(5) - 2
	case 10:
		fn.Name = append(slices.Clone(madeNames), "main", "if", "")[m.Intn(len(madeNames)+3)]
	case 11:
		fn.Ins[at], fn.Ins[0] = fn.Ins[0], fn.Ins[at]
	}
	return c
}

// walk goes a way through a function by chance, with the types that really lie there: they are those of its shapes at each place.
func (m *coder) walk(t *testing.T, c impl.Code, f int) {
	t.Helper()
	fn, shapes := c.Fns[f], impl.Shapes(c, f)
	slots := append(slices.Clone(fn.Params), make([]int, fn.Slots-len(fn.Params))...)
	var stack []int
	for at, steps := 0, 0; steps < 300; steps++ {
		s := shapes[at]
		fit := s.State == 1 && slices.Equal(s.Stack, stack) && len(s.Slots) == len(slots)
		for i, typ := range s.Slots {
			fit = fit && (typ == 0 || typ == slots[i])
		}
		left := modelLeaves(c, fn, at, impl.Shape{State: 1, Slots: slots, Stack: stack})
		if !fit || left.State != 1 {
			t.Fatalf("%v at %d: %v and %v lie there, shape %v", fn, at, slots, stack, s)
		}
		slots, stack = left.Slots, left.Stack
		ways := modelWays(fn.Ins[at], at)
		if len(ways) == 0 {
			return
		}
		at = ways[m.Intn(len(ways))]
	}
}

func newCoder(seed int64, wrong int) *coder {
	return &coder{Rand: rand.New(rand.NewSource(seed)), wrong: wrong}
}

// Made codes, most of them valid, and bent ones, most of them not; promise 9 along ways by chance.
func TestCodeByChance(t *testing.T) {
	found := [6]int{}
	for seed := range int64(1500) {
		m := newCoder(seed, int(seed%3)*10)
		c := m.program(5 + int(seed%40))
		for round := range 6 {
			got := checkCode(t, c)
			found[got[0]]++
			if got[0] == 0 {
				for f := range c.Fns {
					m.walk(t, c, f)
					m.walk(t, c, f)
				}
			}
			if len(c.Fns) == 0 || slices.ContainsFunc(c.Fns, func(fn impl.Fn) bool { return len(fn.Ins) == 0 || fn.Slots < 0 }) {
				break
			}
			if round%2 == 1 {
				c = m.program(10)
			}
			c = m.bend(c)
		}
	}
	t.Log(found)
	for code, least := range []int{1000, 0, 200, 300, 20, 1000} {
		if found[code] < least {
			t.Errorf("code %d came only %d times", code, found[code])
		}
	}
}

// Codes of instructions by chance, whatever lies there: small ones, so that many of them come together in odd ways.
func TestCodeOddWays(t *testing.T) {
	found := [6]int{}
	for seed := range int64(6000) {
		m := newCoder(seed, 0)
		m.fn = cFn("f", []int{impl.TypeBool, impl.TypeText, impl.TypeI64}[:m.Intn(4)], 0, 3)
		size := 2 + m.Intn(12)
		for range size {
			ins := m.any()
			switch m.Intn(4) {
			case 0:
				ins = cOp(impl.InsJump+m.Intn(2), m.Intn(size+1))
			case 1:
				ins = cOf(1 + m.Intn(2))
			case 2:
				ins = cOp(impl.InsLoad+m.Intn(3), 0)
				if ins.Op != impl.InsDrop {
					ins.A = m.Intn(3)
				}
			}
			m.fn.Ins = append(m.fn.Ins, ins)
		}
		found[checkCode(t, cBeside(m.fn))[0]]++
	}
	t.Log(found)
	if found[0] < 100 || found[5] < 1000 {
		t.Error("too few of a kind")
	}
}

// Forms with a byte changed, left out or added, and each of their beginnings.
func TestFormsBent(t *testing.T) {
	taken := 0
	try := func(s string) {
		got, ok := impl.ReadCode(s)
		want, wantOk := modelRead(s)
		if ok != wantOk || !sameCode(got, want) {
			t.Fatalf("%q: %v %v, want %v %v", s, got, ok, want, wantOk)
		}
		if ok {
			taken++
			if back := impl.WriteCode(got); back != s {
				t.Fatalf("%q: written as %q", s, back)
			}
		}
	}
	for seed := range int64(12) {
		m := newCoder(seed, 0)
		c := m.program(6)
		form := impl.WriteCode(c)
		if form == "" || len(form) > 300 {
			continue
		}
		for i := range len(form) {
			try(form[:i])
			try(form[:i] + form[i+1:])
			for b := range 256 {
				try(form[:i] + string([]byte{byte(b)}) + form[i+1:])
				try(form[:i] + string([]byte{byte(b)}) + form[i:])
			}
		}
		for b := range 256 {
			try(form + string([]byte{byte(b)}))
		}
		try(form)
		try(form + form)
	}
	t.Log(taken)
	if taken < 1000 {
		t.Error("too few of them were forms")
	}
}

// Numbers of a form that are too great for their place or for 64 bits, or are written with a needless byte.
func TestFormsWithOddNumbers(t *testing.T) {
	pieces := modelPieces(everyIns())
	form := formOf(pieces)
	if _, ok := impl.ReadCode(form); !ok {
		t.Fatal("the form is right")
	}
	for i, p := range pieces {
		if !p.isNumber {
			continue
		}
		front, behind := formOf(pieces[:i]), formOf(pieces[i+1:])[5:]
		own := string(binary.AppendUvarint(nil, p.n))
		if front+own+behind != form {
			t.Fatal("pieces")
		}
		for _, odd := range oddNumbers(p.n) {
			want, wantOk := modelRead(front + odd + behind)
			if got, ok := impl.ReadCode(front + odd + behind); ok != wantOk || !sameCode(got, want) {
				t.Errorf("number %d, %d as %q: %v", i, p.n, odd, ok)
			}
		}
	}
}

// oddNumbers are other numbers, and other ways to write one.
func oddNumbers(n uint64) []string {
	var list []string
	for _, other := range []uint64{n + 1<<63, n + 1<<32, n + 1<<16, n + 256, n + 128, -n, ^n, math.MaxUint64, math.MaxInt64, 1 << 63} {
		list = append(list, string(binary.AppendUvarint(nil, other)))
	}
	own := binary.AppendUvarint(nil, n)
	own[len(own)-1] |= 128
	for size := len(own); size <= 12; size++ {
		for _, last := range []byte{0, 1, 2, 3, 127} {
			list = append(list, string(append(slices.Clone(own), last)))
		}
		own = append(own, 128)
	}
	full := strings.Repeat("\xff", 9)
	return append(list, full+"\x00", full+"\x01", full+"\x02", full+"\x7f", full+"\x81\x00", full+"\xff\x01", full+"\xff\xff\x01")
}

// everyIns is a code with each Op, each type and each word.
func everyIns() impl.Code {
	b, x, n := cOf(1), cOf(2), cOf(10)
	drop := cOp(impl.InsDrop, 0)
	var all []impl.Ins
	for typ := 1; typ <= 10; typ++ {
		values := edgeValues(typ)
		all = append(all, cPush(values[0]), drop, cPush(values[len(values)-2]), cOp(impl.InsStore, 1), cOp(impl.InsLoad, 1), drop)
	}
	for op := 1; op <= 3; op++ {
		all = append(all, []impl.Ins{n, b, n}[op-1], cOp(impl.InsUn, op), drop)
	}
	for op := 3; op <= 18; op++ {
		all = append(all, n, n, cOp(impl.InsBin, op), drop)
	}
	for to := 3; to <= 10; to++ {
		all = append(all, n, cOp(impl.InsConv, to), drop)
	}
	for op := 1; op <= 12; op++ {
		kids := [][]impl.Ins{nil, {x}, {x}, {x}, {x, x}, nil, {x}, {x, n}, {x, n, n}, {x, x}, {cOf(3)}, {n}, {x}}[op]
		all = append(append(all, kids...), cOp(impl.InsBuilt, op), drop)
	}
	all = append(all, x, cOp(impl.InsCall, 1), x, x, cOp(impl.InsWrite, 0), x, cOp(impl.InsSay, 0), cOp(impl.InsStep, 0))
	at := len(all)
	all = append(all, cOp(impl.InsJump, at+2), drop, b, cOp(impl.InsUnless, 0), b, cOp(impl.InsUnless, at+8), x, cOp(impl.InsFail, 0), x, cOp(impl.InsReturn, 1))
	return cCode(cMain(2, all...), cFn("f_1", []int{2}, 0, 200, cOp(impl.InsReturn, 0)))
}

// What a text of any bytes is read as.
func TestFormsOfAnyBytes(t *testing.T) {
	r := rand.New(rand.NewSource(7))
	for range 20000 {
		s := make([]byte, r.Intn(30))
		for i := range s {
			s[i] = byte(r.Intn(20))
		}
		text := string(s)
		if r.Intn(3) > 0 {
			text = "mill1\x01\x04main\x00\x02" + text
		}
		got, ok := impl.ReadCode(text)
		want, wantOk := modelRead(text)
		if ok != wantOk || !sameCode(got, want) {
			t.Fatalf("%q: %v %v, want %v %v", text, got, ok, want, wantOk)
		}
	}
}
