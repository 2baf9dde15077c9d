package tests

import (
	"math/big"
	"slices"
	"testing"

	"loop.example/kilnmill/impl"
)

// A second way to fold: on the list of nodes itself, with the second way to reckon.

// isLiteralValue says whether a literal can have a value.
func isLiteralValue(v impl.Value) bool {
	return v.Type <= impl.TypeText || bigOf(v).Sign() >= 0
}

func literalTwig(v impl.Value) twig {
	switch v.Type {
	case impl.TypeBool:
		return xBool(v.N)
	case impl.TypeText:
		return xText(v.Text)
	}
	return xInt(v.Type, v.N)
}

// modelFold keeps a pile of lists, each of which holds a node that has nothing above it yet, with all below it.
func modelFold(tree impl.Tree) impl.Tree {
	if fault, _ := modelCheck(tree); fault.Code != 0 {
		return impl.Tree{}
	}
	var pile [][]impl.Node
	for _, n := range tree.Nodes {
		kids := slices.Clone(pile[len(pile)-n.Kids:])
		pile = append(pile[:len(pile)-n.Kids], modelFolded(n, kids))
	}
	return impl.Tree{Nodes: pile[0]}
}

func modelFolded(n impl.Node, kids [][]impl.Node) []impl.Node {
	if n.Kind == impl.NodeBin && n.Op <= impl.OpAnd && kids[0][0].Kind == impl.NodeBool && len(kids[0]) == 1 {
		// By the Op and by whether the first kid is true: which kid stays.
		stays := [][]int{{}, {1, 0}, {0, 1}}[n.Op]
		return kids[stays[kids[0][0].N]]
	}
	whole := append(slices.Concat(kids...), n)
	v, word := modelAnswer(n, kids)
	if word != "" || !isLiteralValue(v) {
		return whole
	}
	return nodesOf(nil, literalTwig(v))
}

// modelAnswer is the answer of chapter 4, or a word where it is not asked.
func modelAnswer(n impl.Node, kids [][]impl.Node) (impl.Value, string) {
	var values []impl.Value
	for _, kid := range kids {
		switch kid[len(kid)-1].Kind {
		case impl.NodeInt:
			values = append(values, vInt(kid[0].Type, kid[0].N))
		case impl.NodeText:
			values = append(values, vText(kid[0].Text))
		case impl.NodeBool:
			values = append(values, vInt(impl.TypeBool, kid[0].N))
		default:
			return impl.Value{}, "no literal"
		}
	}
	switch {
	case n.Kind == impl.NodeUn:
		return modelUnary(n.Op, values[0])
	case n.Kind == impl.NodeBin && n.Op > impl.OpAnd:
		return modelBinary(n.Op, values[0], values[1])
	case n.Kind == impl.NodeConv:
		return modelConvert(values[0], n.Type)
	case n.Kind == impl.NodeBuilt:
		return modelBuilt(n.Op, values)
	}
	return impl.Value{}, "not asked"
}

// sharpen puts numbers and texts at which something turns into a tree's literals; what fits goes on fitting.
func (m *typed) sharpen(tree *impl.Tree) {
	for i := range tree.Nodes {
		n := &tree.Nodes[i]
		if m.Intn(2) == 0 {
			continue
		}
		switch n.Kind {
		case impl.NodeInt:
			numbers := edgeNumbers()
			if v := valueOf(n.Type, big.NewInt(numbers[m.Intn(len(numbers))])); isLiteralValue(v) {
				n.N = v.N
			}
		case impl.NodeText:
			n.Text = anyText(m.Rand)
		}
	}
}

// P6, for programs that fit, with few names and with many.
func TestFoldByChance(t *testing.T) {
	m := newTyped(51)
	fewer, same, kinds := 0, 0, map[[2]int]int{}
	for i := range 5000 {
		tree := treeOf(m.program(1+m.Intn(4), 0))
		if i%2 == 0 {
			m.sharpen(&tree)
		}
		want := modelFold(tree)
		wantFolded(t, tree, want)
		if len(want.Nodes) < len(tree.Nodes) {
			fewer++
		} else {
			same++
		}
		for _, n := range tree.Nodes {
			kinds[[2]int{n.Kind, n.Op}]++
		}
		for _, n := range want.Nodes {
			kinds[[2]int{n.Kind, n.Op}]--
		}
	}
	if fewer < 4000 || same < 100 {
		t.Errorf("%d folded, %d as before", fewer, same)
	}
	for op := impl.OpNeg; op <= impl.OpInv; op++ {
		if kinds[[2]int{impl.NodeUn, op}] < 50 {
			t.Errorf("%s was folded %d times", unMarks[op], kinds[[2]int{impl.NodeUn, op}])
		}
	}
	for op := impl.OpOr; op <= impl.OpRight; op++ {
		if kinds[[2]int{impl.NodeBin, op}] < 50 {
			t.Errorf("%s was folded %d times", binMarks[op], kinds[[2]int{impl.NodeBin, op}])
		}
	}
	for op := impl.BuiltLen; op <= impl.BuiltNum; op++ {
		if kinds[[2]int{impl.NodeBuilt, op}] < 50 {
			t.Errorf("%s was folded %d times", builtWords[op], kinds[[2]int{impl.NodeBuilt, op}])
		}
	}
}

// Programs that nearly fit, and trees of all sorts.
func TestFoldBent(t *testing.T) {
	m := newTyped(52)
	fit, unfit := 0, 0
	for i := range 6000 {
		tree := treeOf(m.program(1+m.Intn(3), []int{0, 50}[i%2]))
		switch i % 3 {
		case 0:
			m.retype(&tree.Nodes[m.Intn(len(tree.Nodes))])
		case 1:
			m.bend(&tree)
		}
		want := modelFold(tree)
		wantFolded(t, tree, want)
		if len(want.Nodes) > 0 {
			fit++
		} else {
			unfit++
		}
	}
	if fit < 1000 || unfit < 1000 {
		t.Errorf("%d fit, %d do not", fit, unfit)
	}
}
