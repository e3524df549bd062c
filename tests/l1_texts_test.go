package tests

import (
	"slices"
	"strings"
	"testing"

	"loop.example/treenumbers/impl"
)

func TestConstantNodesMax(t *testing.T) {
	if impl.NodesMax != 9 {
		t.Errorf("NodesMax is %d", impl.NodesMax)
	}
}

func TestTreeInTakesTrees(t *testing.T) {
	for _, s := range []string{"()", "(())", "(()())", "((()))", "(()(()))", path(impl.NodesMax), star(impl.NodesMax)} {
		if !impl.TreeIn(s) {
			t.Errorf("TreeIn(%q) does not hold", s)
		}
	}
}

// TestTreeInTellsAllTexts holds TreeIn against the list of all trees, for all texts of brackets of up to 20 bytes, which also has the trees with a node too many.
func TestTreeInTellsAllTexts(t *testing.T) {
	trees := map[string]bool{}
	for _, s := range treesUpTo(impl.NodesMax) {
		trees[s] = true
	}
	for length := 0; length <= 2*impl.NodesMax+2; length++ {
		text := make([]byte, length)
		for bits := range 1 << length {
			for i := range text {
				text[i] = "()"[bits>>i&1]
			}
			if s := string(text); impl.TreeIn(s) != trees[s] {
				t.Fatalf("TreeIn(%q) returned %v", s, !trees[s])
			}
		}
	}
}

// TestOtherBytes puts each other byte into each place of a tree, and each other byte instead of each of its bytes.
func TestOtherBytes(t *testing.T) {
	tree := "(()(()))"
	for b := range 256 {
		if b == '(' || b == ')' {
			continue
		}
		other := string([]byte{byte(b)})
		for i := range len(tree) + 1 {
			if s := tree[:i] + other + tree[i:]; impl.TreeIn(s) {
				t.Errorf("TreeIn(%q) holds", s)
			}
			if i < len(tree) && impl.TreeIn(tree[:i]+other+tree[i+1:]) {
				t.Errorf("TreeIn(%q) holds", tree[:i]+other+tree[i+1:])
			}
		}
	}
}

func TestTextsThatAreNoTrees(t *testing.T) {
	for _, s := range notTrees() {
		if impl.TreeIn(s) {
			t.Errorf("TreeIn(%q) holds", s)
		}
		checkNoNumbers(t, s)
		checkNoTexts(t, s)
		checkNoLists(t, s)
		checkNotAlike(t, s)
	}
}

func checkNoNumbers(t *testing.T, s string) {
	t.Helper()
	if n, ok := impl.TreeNodes(s); ok || n != 0 {
		t.Errorf("TreeNodes(%q) returned %d, %v", s, n, ok)
	}
	if n, ok := impl.TreeLeaves(s); ok || n != 0 {
		t.Errorf("TreeLeaves(%q) returned %d, %v", s, n, ok)
	}
	if n, ok := impl.TreeHeight(s); ok || n != 0 {
		t.Errorf("TreeHeight(%q) returned %d, %v", s, n, ok)
	}
}

func checkNoTexts(t *testing.T, s string) {
	t.Helper()
	if x, ok := impl.TreeTurned(s); ok || x != "" {
		t.Errorf("TreeTurned(%q) returned %q, %v", s, x, ok)
	}
	if x, ok := impl.TreeSorted(s); ok || x != "" {
		t.Errorf("TreeSorted(%q) returned %q, %v", s, x, ok)
	}
	for v := -1; v <= 1; v++ {
		if x, ok := impl.TreePart(s, v); ok || x != "" {
			t.Errorf("TreePart(%q, %d) returned %q, %v", s, v, x, ok)
		}
	}
	for _, kids := range [][]string{{s}, {s, "()"}, {"()", s}} {
		if x, ok := impl.TreeOf(kids); ok || x != "" {
			t.Errorf("TreeOf(%q) returned %q, %v", kids, x, ok)
		}
	}
}

func checkNoLists(t *testing.T, s string) {
	t.Helper()
	if x, ok := impl.TreeChildren(s); ok || len(x) != 0 {
		t.Errorf("TreeChildren(%q) returned %q, %v", s, x, ok)
	}
	if x, ok := impl.TreeUp(s); ok || len(x) != 0 {
		t.Errorf("TreeUp(%q) returned %v, %v", s, x, ok)
	}
}

func checkNotAlike(t *testing.T, s string) {
	t.Helper()
	if impl.TreeAlike(s, "()") || impl.TreeAlike("()", s) || impl.TreeAlike(s, s) {
		t.Errorf("TreeAlike holds for %q", s)
	}
}

// TestPromise1 checks that TreeOf of TreeChildren is the tree.
func TestPromise1(t *testing.T) {
	for _, s := range treesUpTo(impl.NodesMax) {
		kids, ok := impl.TreeChildren(s)
		if !impl.TreeIn(s) || !ok {
			t.Errorf("TreeChildren(%q) returned %q, %v", s, kids, ok)
		}
		back, ok := impl.TreeOf(kids)
		checkText(t, "TreeOf of TreeChildren", s, back, ok, s)
	}
}

// TestPromise2 checks that the nodes are those of all children and the root.
func TestPromise2(t *testing.T) {
	for _, s := range treesUpTo(impl.NodesMax) {
		sum := 1
		kids, _ := impl.TreeChildren(s)
		for _, kid := range kids {
			n, _ := impl.TreeNodes(kid)
			sum += n
		}
		n, ok := impl.TreeNodes(s)
		checkNumber(t, "TreeNodes", s, n, ok, sum)
		checkNumber(t, "TreeNodes", s, n, ok, strings.Count(s, "("))
	}
}

// TestPromise3 checks that the leaves stay as many when children change places.
func TestPromise3(t *testing.T) {
	for _, s := range treesUpTo(impl.NodesMax) {
		want := strings.Count(s, "()")
		n, ok := impl.TreeLeaves(s)
		checkNumber(t, "TreeLeaves", s, n, ok, want)
		if nodes, _ := impl.TreeNodes(s); n < 1 || n > nodes {
			t.Errorf("TreeLeaves(%q) returned %d of %d nodes", s, n, nodes)
		}
		turned, _ := impl.TreeTurned(s)
		n, ok = impl.TreeLeaves(turned)
		checkNumber(t, "TreeLeaves", turned, n, ok, want)
		sorted, _ := impl.TreeSorted(s)
		n, ok = impl.TreeLeaves(sorted)
		checkNumber(t, "TreeLeaves", sorted, n, ok, want)
	}
}

// TestPromise4 checks that the height is 1 more than the greatest one of the children.
func TestPromise4(t *testing.T) {
	for _, s := range treesUpTo(impl.NodesMax) {
		want := 0
		kids, _ := impl.TreeChildren(s)
		for _, kid := range kids {
			h, _ := impl.TreeHeight(kid)
			want = max(want, h+1)
		}
		h, ok := impl.TreeHeight(s)
		checkNumber(t, "TreeHeight", s, h, ok, want)
		checkNumber(t, "TreeHeight", s, h, ok, slices.Max(depthsOf(s)))
		if nodes, _ := impl.TreeNodes(s); h >= nodes {
			t.Errorf("TreeHeight(%q) returned %d", s, h)
		}
	}
}

// TestPromise5 checks that the first child is the part of the node 1.
func TestPromise5(t *testing.T) {
	for _, s := range treesUpTo(impl.NodesMax) {
		kids, ok := impl.TreeChildren(s)
		if !ok || !slices.Equal(kids, childrenOf(s)) {
			t.Errorf("TreeChildren(%q) returned %q, %v", s, kids, ok)
		}
		part, ok := impl.TreePart(s, 1)
		if ok != (len(kids) > 0) || ok && part != kids[0] {
			t.Errorf("TreePart(%q, 1) returned %q, %v", s, part, ok)
		}
	}
}

// TestPromise6 checks, for all lists of up to three trees, that TreeOf has them as its children, or fails for too many nodes.
func TestPromise6(t *testing.T) {
	lists := [][]string{nil, {}}
	small := treesUpTo(4)
	for _, a := range small {
		lists = append(lists, []string{a})
		for _, b := range small {
			lists = append(lists, []string{a, b})
			for _, c := range small {
				lists = append(lists, []string{a, b, c})
			}
		}
	}
	for _, kids := range lists {
		checkTreeOf(t, kids)
	}
}

// TestPromise6AtTheLimit has trees of NodesMax nodes, and of one more.
func TestPromise6AtTheLimit(t *testing.T) {
	for n := impl.NodesMax - 2; n <= impl.NodesMax; n++ {
		checkTreeOf(t, []string{path(n)})
		checkTreeOf(t, []string{star(n)})
		checkTreeOf(t, childrenOf(star(n+1)))
		checkTreeOf(t, []string{"()", path(n - 1)})
		checkTreeOf(t, []string{path(n - 1), "()"})
	}
	checkTreeOf(t, slices.Repeat([]string{"()"}, 1000))
	checkTreeOf(t, slices.Repeat([]string{path(impl.NodesMax)}, 1000))
}

func checkTreeOf(t *testing.T, kids []string) {
	t.Helper()
	before := slices.Clone(kids)
	text := "(" + strings.Join(kids, "") + ")"
	s, ok := impl.TreeOf(kids)
	if !slices.Equal(kids, before) {
		t.Errorf("TreeOf changed %q to %q", before, kids)
	}
	if len(text) > 2*impl.NodesMax {
		if ok || s != "" {
			t.Errorf("TreeOf(%q) returned %q, %v", kids, s, ok)
		}
		return
	}
	checkText(t, "TreeOf", text, s, ok, text)
	if back, ok := impl.TreeChildren(s); !ok || !slices.Equal(back, kids) {
		t.Errorf("TreeChildren of TreeOf(%q) returned %q, %v", kids, back, ok)
	}
}

// TestTreeOfReadsEachText has lists whose texts are no trees, but make one together.
func TestTreeOfReadsEachText(t *testing.T) {
	for _, kids := range [][]string{{""}, {"", "()"}, {"()", ""}, {"(", ")"}, {"()()"}, {"(()", ")"}, {")("}, {"()", "(", ")"}} {
		if s, ok := impl.TreeOf(kids); ok || s != "" {
			t.Errorf("TreeOf(%q) returned %q, %v", kids, s, ok)
		}
	}
}

// TestPromise7 checks that turning leads back, and to an alike tree.
func TestPromise7(t *testing.T) {
	for _, s := range treesUpTo(impl.NodesMax) {
		turned, ok := impl.TreeTurned(s)
		checkText(t, "TreeTurned", s, turned, ok, mirrored(s))
		back, ok := impl.TreeTurned(turned)
		checkText(t, "TreeTurned", turned, back, ok, s)
		if !impl.TreeAlike(s, turned) {
			t.Errorf("TreeAlike(%q, %q) does not hold", s, turned)
		}
	}
}

func TestTreeTurnedExamples(t *testing.T) {
	checkTexts(t, "TreeTurned", impl.TreeTurned, map[string]string{
		"()":           "()",
		"(())":         "(())",
		"(()(()))":     "((())())",
		"((()(())))":   "(((())()))",
		"((()(()))())": "(()((())()))",
	})
}

// TestPromise8 checks that the tree in order is its own and an alike one, and that its children do not fall at any node.
func TestPromise8(t *testing.T) {
	for _, s := range treesUpTo(impl.NodesMax) {
		sorted, ok := impl.TreeSorted(s)
		if !ok || !matched(s, sorted) || !impl.TreeAlike(s, sorted) {
			t.Errorf("TreeSorted(%q) returned %q, %v", s, sorted, ok)
		}
		again, ok := impl.TreeSorted(sorted)
		checkText(t, "TreeSorted", sorted, again, ok, sorted)
		for _, part := range partsOf(sorted) {
			if !slices.IsSorted(childrenOf(part)) {
				t.Errorf("TreeSorted(%q) returned %q", s, sorted)
			}
		}
	}
}

func TestTreeSortedExamples(t *testing.T) {
	checkTexts(t, "TreeSorted", impl.TreeSorted, map[string]string{
		"()":                 "()",
		"(()(()))":           "((())())",
		"((())())":           "((())())",
		"(()(()(())))":       "(((())())())",
		"((()())((())))":     "(((()))(()()))",
		"(()(())((()))()())": "(((()))(())()()())",
	})
}

// TestTreeSortedCounts holds the numbers of trees in order against the known ones.
func TestTreeSortedCounts(t *testing.T) {
	for i, want := range []int{1, 1, 2, 4, 9, 20, 48, 115, 286} {
		found := map[string]bool{}
		for _, s := range treesOf(i + 1) {
			sorted, _ := impl.TreeSorted(s)
			found[sorted] = true
		}
		if len(found) != want {
			t.Errorf("there are %d trees in order with %d nodes instead of %d", len(found), i+1, want)
		}
	}
}

// TestPromise9 checks, for all pairs of trees with up to 7 nodes, whether they are alike, both ways round.
func TestPromise9(t *testing.T) {
	trees := treesUpTo(7)
	for _, s := range trees {
		for _, u := range trees {
			if len(s) == len(u) || len(s) <= 10 && len(u) <= 10 {
				checkAlike(t, s, u)
			}
		}
	}
}

func checkAlike(t *testing.T, s, u string) {
	t.Helper()
	alike := impl.TreeAlike(s, u)
	if alike != matched(s, u) || alike != impl.TreeAlike(u, s) {
		t.Errorf("TreeAlike(%q, %q) returned %v", s, u, alike)
	}
	if !alike {
		return
	}
	a, _ := impl.TreeHeight(s)
	b, _ := impl.TreeHeight(u)
	c, _ := impl.TreeLeaves(s)
	d, _ := impl.TreeLeaves(u)
	if a != b || c != d {
		t.Errorf("%q and %q are alike, with the heights %d and %d, and %d and %d leaves", s, u, a, b, c, d)
	}
}

func TestTreePartOfAllNodes(t *testing.T) {
	for _, s := range treesUpTo(impl.NodesMax) {
		for v, want := range partsOf(s) {
			part, ok := impl.TreePart(s, v)
			checkText(t, "TreePart", s, part, ok, want)
		}
	}
}

func TestTreePartOfNoNode(t *testing.T) {
	for _, s := range []string{"()", "(())", "(()(()))", path(impl.NodesMax), star(impl.NodesMax)} {
		for _, v := range noNodesOf(s) {
			if part, ok := impl.TreePart(s, v); ok || part != "" {
				t.Errorf("TreePart(%q, %d) returned %q, %v", s, v, part, ok)
			}
		}
	}
}

func TestTreeUpOfAllTrees(t *testing.T) {
	for _, s := range treesUpTo(impl.NodesMax) {
		ups, ok := impl.TreeUp(s)
		depths := depthsOf(s)
		if !ok || len(ups) != len(depths) || ups[0] != -1 {
			t.Fatalf("TreeUp(%q) returned %v, %v", s, ups, ok)
		}
		for v, up := range ups[1:] {
			// The node above is the last one before the node with a depth of 1 less.
			if want := lastBefore(depths, v+1); up != want {
				t.Errorf("TreeUp(%q) returned %v, with %d instead of %d", s, ups, up, want)
			}
		}
	}
}

// lastBefore returns the last index before v that has a depth of 1 less than v.
func lastBefore(depths []int, v int) int {
	u := v - 1
	for depths[u] != depths[v]-1 {
		u--
	}
	return u
}

// TestTheNodeAlone checks each function of the chapter for the node alone.
func TestTheNodeAlone(t *testing.T) {
	s := "()"
	n, ok := impl.TreeNodes(s)
	checkNumber(t, "TreeNodes", s, n, ok, 1)
	n, ok = impl.TreeLeaves(s)
	checkNumber(t, "TreeLeaves", s, n, ok, 1)
	n, ok = impl.TreeHeight(s)
	checkNumber(t, "TreeHeight", s, n, ok, 0)
	if kids, ok := impl.TreeChildren(s); !ok || len(kids) != 0 {
		t.Errorf("TreeChildren returned %q, %v", kids, ok)
	}
	if ups, ok := impl.TreeUp(s); !ok || !slices.Equal(ups, []int{-1}) {
		t.Errorf("TreeUp returned %v, %v", ups, ok)
	}
	x, ok := impl.TreePart(s, 0)
	checkText(t, "TreePart", s, x, ok, s)
	x, ok = impl.TreeTurned(s)
	checkText(t, "TreeTurned", s, x, ok, s)
	x, ok = impl.TreeSorted(s)
	checkText(t, "TreeSorted", s, x, ok, s)
	x, ok = impl.TreeOf(nil)
	checkText(t, "TreeOf", "", x, ok, s)
	if !impl.TreeIn(s) || !impl.TreeAlike(s, s) || impl.TreeAlike(s, "(())") {
		t.Errorf("the node alone is no tree, not alike to itself, or alike to another tree")
	}
}

// TestResultsAreNewMemory writes into the results of a call, and behind them, and looks at those of another call.
func TestResultsAreNewMemory(t *testing.T) {
	s := "(()(()))"
	kids, _ := impl.TreeChildren(s)
	kids[0], kids[1] = "x", "y"
	_ = append(kids, "z")
	if again, _ := impl.TreeChildren(s); !slices.Equal(again, []string{"()", "(())"}) {
		t.Errorf("TreeChildren returned %q", again)
	}
	ups, _ := impl.TreeUp(s)
	ups[0], ups[3] = 7, 8
	_ = append(ups, 9)
	if again, _ := impl.TreeUp(s); !slices.Equal(again, []int{-1, 0, 0, 2}) {
		t.Errorf("TreeUp returned %v", again)
	}
}
