package tests

import (
	"slices"
	"strings"
	"testing"

	"loop.example/treenumbers/impl"
)

// numberPairs returns the functions of the chapter that tell a number of one tree, by name.
func numberPairs() map[string]func(string) (int, bool) {
	return map[string]func(string) (int, bool){"PairUneven": impl.PairUneven, "PairDeep": impl.PairDeep}
}

// isPairs tells whether each node of a tree has no children or two.
func isPairs(s string) bool {
	return !slices.ContainsFunc(degreesOf(s), func(kids int) bool { return kids != 0 && kids != 2 })
}

// pairTreesOf returns all trees of pairs with n nodes.
func pairTreesOf(n int) []string {
	return slices.DeleteFunc(treesOf(n), func(s string) bool { return !isPairs(s) })
}

// pairTrees returns all trees of pairs.
func pairTrees() []string {
	return slices.DeleteFunc(treesUpTo(impl.NodesMax), func(s string) bool { return !isPairs(s) })
}

// pairless returns all trees that are no trees of pairs.
func pairless() []string {
	return slices.DeleteFunc(treesUpTo(impl.NodesMax), isPairs)
}

// leaning returns the tree of pairs with n inner nodes all of whose left children, but one, are inner nodes.
func leaning(n int) string {
	s := "()"
	for range n {
		s = "(" + s + "())"
	}
	return s
}

// innersOf returns the parts of all nodes of a tree that have two children.
func innersOf(s string) []string {
	return slices.DeleteFunc(partsOf(s), func(part string) bool { return len(childrenOf(part)) != 2 })
}

// pairsText returns the text of the pairs of some children.
func pairsText(kids []string) string {
	if len(kids) == 0 {
		return "()"
	}
	return "(" + pairsText(childrenOf(kids[0])) + pairsText(kids[1:]) + ")"
}

// turnedText puts together the text of a tree turned at a node; it is empty if there is no turn.
func turnedText(s string, v int) string {
	part := partsOf(s)[v]
	kids := childrenOf(part)
	if len(kids) != 2 || len(childrenOf(kids[0])) != 2 {
		return ""
	}
	below := childrenOf(kids[0])
	from := openingOf(s, v)
	return s[:from] + "(" + below[0] + "(" + below[1] + kids[1] + "))" + s[from+len(part):]
}

// turnsOf returns all trees that come by one turn, as an ascending list.
func turnsOf(s string) []string {
	turns := []string{}
	for v := range len(s) / 2 {
		if turned := turnedText(s, v); turned != "" {
			turns = append(turns, turned)
		}
	}
	slices.Sort(turns)
	return slices.Compact(turns)
}

// rightSizes returns, for each inner node of a tree of pairs from left to right, the number of inner nodes of its right child.
func rightSizes(s string) []int {
	kids := childrenOf(s)
	if len(kids) == 0 {
		return nil
	}
	return slices.Concat(rightSizes(kids[0]), []int{len(innersOf(kids[1]))}, rightSizes(kids[1]))
}

// isBelow tells whether a tree of pairs is below another one, without turns: a turn makes
// the right child of one inner node greater, and where none is less, turns lead there.
func isBelow(s, u string) bool {
	sizes, others := rightSizes(s), rightSizes(u)
	for i := range sizes {
		if len(sizes) != len(others) || sizes[i] > others[i] {
			return false
		}
	}
	return len(sizes) == len(others)
}

// turnDistances returns the fewest turns, done or undone, between all trees of pairs with n nodes.
func turnDistances(n int) map[[2]string]int {
	trees := pairTreesOf(n)
	far := map[[2]string]int{}
	for _, s := range trees {
		for _, u := range trees {
			far[[2]string{s, u}] = len(trees)
		}
		far[[2]string{s, s}] = 0
	}
	for _, s := range trees {
		for _, u := range turnsOf(s) {
			far[[2]string{s, u}], far[[2]string{u, s}] = 1, 1
		}
	}
	for _, by := range trees {
		for _, s := range trees {
			for _, u := range trees {
				far[[2]string{s, u}] = min(far[[2]string{s, u}], far[[2]string{s, by}]+far[[2]string{by, u}])
			}
		}
	}
	return far
}

// checkTurns checks a list of trees that came with true.
func checkTurns(t *testing.T, s string, got []string, ok bool, want []string) {
	t.Helper()
	if !ok || !slices.Equal(got, want) {
		t.Errorf("PairTurns(%q) returned %q, %v instead of %q, true", s, got, ok, want)
	}
}

// checkBelow checks whether a tree is below another one.
func checkBelow(t *testing.T, s, u string, want bool) {
	t.Helper()
	if impl.PairBelow(s, u) != want {
		t.Errorf("PairBelow(%q, %q) returned %v", s[:min(len(s), 40)], u[:min(len(u), 40)], !want)
	}
}

// checkNoFar checks that no turns are between two texts.
func checkNoFar(t *testing.T, s, u string) {
	t.Helper()
	if far, ok := impl.PairFar(s, u); ok || far != 0 {
		t.Errorf("PairFar(%q, %q) returned %d, %v", s[:min(len(s), 40)], u[:min(len(u), 40)], far, ok)
	}
}

// checkNoTurn checks that a text can't be turned at a node.
func checkNoTurn(t *testing.T, s string, v int) {
	t.Helper()
	if turned, ok := impl.PairTurn(s, v); ok || turned != "" {
		t.Errorf("PairTurn(%q, %d) with %d bytes returned %q, %v", s[:min(len(s), 40)], v, len(s), turned, ok)
	}
}

// checkNoPairsOf checks that a text has no pairs that are a tree.
func checkNoPairsOf(t *testing.T, s string) {
	t.Helper()
	if pairs, ok := impl.PairOf(s); ok || pairs != "" {
		t.Errorf("PairOf(%q) with %d bytes returned %q, %v", s[:min(len(s), 40)], len(s), pairs, ok)
	}
}

// checkPairless checks that a text is no tree of pairs, and that nothing is made of it that is made of them.
func checkPairless(t *testing.T, s string) {
	t.Helper()
	shown := s[:min(len(s), 40)]
	back, hasBack := impl.PairBack(s)
	turns, hasTurns := impl.PairTurns(s)
	if impl.PairIn(s) || hasBack || back != "" || hasTurns || len(turns) != 0 {
		t.Errorf("%q with %d bytes is a tree of pairs, or has %q (%v) as tree or %q (%v) as turns", shown, len(s), back, hasBack, turns, hasTurns)
	}
	for call, f := range numberPairs() {
		if n, ok := f(s); ok || n != 0 {
			t.Errorf("%s(%q) with %d bytes returned %d, %v", call, shown, len(s), n, ok)
		}
	}
	for v := range 3 {
		checkNoTurn(t, s, v)
	}
	for _, other := range []string{"()", "(()())", "((()())())", leaning(4), s} {
		checkBelow(t, s, other, false)
		checkBelow(t, other, s, false)
		checkNoFar(t, s, other)
		checkNoFar(t, other, s)
	}
}

// pairExample is what the functions of the chapter tell of a tree of pairs, worked out by hand.
type pairExample struct {
	pairs, back  string
	turns        []string
	uneven, deep int
}

// pairExamples has the edge cases that the issue of the chapter names.
func pairExamples() []pairExample {
	return []pairExample{
		{"()", "()", nil, 0, 0},
		// Trees of three nodes, and of five.
		{"(()())", "(())", nil, 0, 2},
		{"((()())())", "((()))", []string{"(()(()()))"}, 1, 5},
		{"(()(()()))", "(()())", nil, 1, 5},
		// All trees of seven nodes: one with two turns, three with one and one with none.
		{"(((()())())())", "(((())))", []string{"((()(()()))())", "((()())(()()))"}, 3, 9},
		{"((()(()()))())", "((()()))", []string{"(()((()())()))"}, 3, 9},
		{"(()((()())()))", "(()(()))", []string{"(()(()(()())))"}, 3, 9},
		{"((()())(()()))", "((())())", []string{"(()(()(()())))"}, 0, 8},
		{"(()(()(()())))", "(()()())", nil, 3, 9},
		// Trees of nine nodes, which lead back to trees of five.
		{"((((()())())())())", path(5), []string{"(((()(()()))())())", "(((()())(()()))())", "(((()())())(()()))"}, 6, 14},
		{"(()(()(()(()()))))", star(5), nil, 6, 14},
		{"((()())(()(()())))", "((())()())", []string{"(()(()(()(()()))))"}, 2, 12},
		{"((()())((()())()))", "((())(()))", []string{"((()())(()(()())))", "(()(()((()())())))"}, 2, 12},
		{"(((()())(()()))())", "(((())()))", []string{"((()(()(()())))())", "((()())((()())()))"}, 3, 13},
	}
}

func TestPairExamples(t *testing.T) {
	for _, e := range pairExamples() {
		if !impl.PairIn(e.pairs) {
			t.Errorf("PairIn(%q) does not hold", e.pairs)
		}
		pairs, ok := impl.PairOf(e.back)
		checkText(t, "PairOf", e.back, pairs, ok, e.pairs)
		back, ok := impl.PairBack(e.pairs)
		checkText(t, "PairBack", e.pairs, back, ok, e.back)
		turns, ok := impl.PairTurns(e.pairs)
		checkTurns(t, e.pairs, turns, ok, e.turns)
		for call, want := range map[string]int{"PairUneven": e.uneven, "PairDeep": e.deep} {
			got, ok := numberPairs()[call](e.pairs)
			checkNumber(t, call, e.pairs, got, ok, want)
		}
	}
}

func TestPairInExamples(t *testing.T) {
	for _, s := range []string{"()", "(()())", "((()())())", "(()(()()))", "((()())(()()))", leaning(4), mirrored(leaning(4))} {
		if !impl.PairIn(s) {
			t.Errorf("PairIn(%q) does not hold", s)
		}
	}
	for _, s := range []string{
		// One child at the root, below it, at a last node, and everywhere.
		"(())", "((()()))", "((())())", "(()(()))", "((())(()))", "((()())((())))", "(()(()(())))", "((()))", path(9),
		// Three children, and more.
		"(()()())", "((()()())())", "(()(()()()))", "(()()()())", "(()()(()()))", star(9),
		// One child and three, so that the nodes are 1 less than twice the leaves.
		"((()()()))", "((())()())", "(()(())())", "(()((()()())))",
		// A tree of pairs but for its number of nodes.
		leaning(5), mirrored(leaning(5)), leaning(1000),
	} {
		if impl.PairIn(s) {
			t.Errorf("PairIn(%q) holds", s[:min(len(s), 40)])
		}
	}
}

// TestPromise61 checks which trees are trees of pairs: as many as is known, turned ones too, all with one leaf more than inner nodes.
func TestPromise61(t *testing.T) {
	known := [impl.NodesMax + 1]int{1: 1, 3: 1, 5: 2, 7: 5, 9: 14}
	found := [impl.NodesMax + 1]int{}
	for _, s := range treesUpTo(impl.NodesMax) {
		holds := impl.PairIn(s)
		if holds != isPairs(s) || holds != impl.PairIn(mirrored(s)) {
			t.Errorf("PairIn(%q) returned %v", s, holds)
		}
		if holds {
			found[len(s)/2]++
			leaves, _ := impl.TreeLeaves(s)
			nodes, _ := impl.TreeNodes(s)
			turned, _ := impl.TreeTurned(s)
			if nodes != 2*leaves-1 || !impl.PairIn(turned) {
				t.Errorf("PairIn(%q) holds, with %d nodes and %d leaves", s, nodes, leaves)
			}
		}
	}
	if found != known {
		t.Errorf("there are %v trees of pairs instead of %v", found, known)
	}
}

// TestPromise62 checks the pairs of all trees: those of trees of up to 5 nodes lead back, and those of greater ones are too great.
func TestPromise62(t *testing.T) {
	for _, s := range treesUpTo(impl.NodesMax) {
		if len(s)/2 > 5 {
			checkNoPairsOf(t, s)
			continue
		}
		pairs, ok := impl.PairOf(s)
		checkText(t, "PairOf", s, pairs, ok, pairsText(childrenOf(s)))
		nodes, _ := impl.TreeNodes(pairs)
		if !impl.PairIn(pairs) || nodes != len(s)-1 {
			t.Errorf("PairOf(%q) returned %q, with %d nodes", s, pairs, nodes)
		}
		back, ok := impl.PairBack(pairs)
		checkText(t, "PairBack", pairs, back, ok, s)
	}
}

// TestPromise63 looks for the tree to which each tree of pairs leads back among all trees.
func TestPromise63(t *testing.T) {
	for _, s := range pairTrees() {
		trees := slices.DeleteFunc(treesUpTo(5), func(u string) bool { return pairsText(childrenOf(u)) != s })
		if len(trees) != 1 {
			t.Fatalf("%q are the pairs of %q", s, trees)
		}
		back, ok := impl.PairBack(s)
		checkText(t, "PairBack", s, back, ok, trees[0])
		pairs, ok := impl.PairOf(back)
		checkText(t, "PairOf", back, pairs, ok, s)
	}
}

// TestPromise64 turns all trees of pairs at all nodes.
func TestPromise64(t *testing.T) {
	for _, s := range pairTrees() {
		turns, _ := impl.PairTurns(s)
		for v := range len(s) / 2 {
			want := turnedText(s, v)
			if want == "" {
				checkNoTurn(t, s, v)
				continue
			}
			turned, ok := impl.PairTurn(s, v)
			checkText(t, "PairTurn", s, turned, ok, want)
			checkBelow(t, s, turned, true)
			checkBelow(t, turned, s, false)
			far, ok := impl.PairFar(s, turned)
			checkNumber(t, "PairFar", s, far, ok, 1)
			if !slices.Contains(turns, turned) {
				t.Errorf("PairTurn(%q, %d) returned %q, but PairTurns %q", s, v, turned, turns)
			}
		}
	}
}

func TestPairTurnExamples(t *testing.T) {
	for _, e := range []struct {
		tree string
		v    int
		want string
	}{
		// At the root.
		{"((()())())", 0, "(()(()()))"}, {"((()())(()()))", 0, "(()(()(()())))"}, {"((()(()()))())", 0, "(()((()())()))"},
		{"(((()())())())", 0, "((()())(()()))"}, {"(((()())(()()))())", 0, "((()())((()())()))"}, {leaning(4), 0, "(((()())())(()()))"},
		// At an inner node below it, on the left and on the right.
		{"(((()())())())", 1, "((()(()()))())"}, {"(()((()())()))", 2, "(()(()(()())))"}, {"((()())((()())()))", 4, "((()())(()(()())))"},
		{leaning(4), 1, "(((()())(()()))())"}, {leaning(4), 2, "(((()(()()))())())"}, {"(()(()((()())())))", 4, "(()(()(()(()()))))"},
	} {
		turned, ok := impl.PairTurn(e.tree, e.v)
		checkText(t, "PairTurn", e.tree, turned, ok, e.want)
	}
	for _, e := range []struct {
		tree string
		v    int
	}{
		// At a leaf: the only node, a first, an inner and a last one.
		{"()", 0}, {"(()())", 1}, {"(()())", 2}, {"((()())())", 2}, {"((()())())", 3}, {"((()())())", 4}, {leaning(4), 8},
		// At an inner node whose left child is a leaf.
		{"(()())", 0}, {"((()())())", 1}, {"(()(()()))", 0}, {"(()(()()))", 2}, {"(()((()())()))", 0}, {"((()(()()))())", 1}, {leaning(4), 3},
		// Each left child has children, but is no inner node, or the tree has a node with one child elsewhere.
		{"((())())", 0}, {"((()()())())", 0}, {"((()())(()))", 0}, {"((()(()))())", 0},
	} {
		checkNoTurn(t, e.tree, e.v)
	}
}

// TestPromise65 checks the turns of all trees of pairs: with those of the mirrored tree they are one less than the inner nodes.
func TestPromise65(t *testing.T) {
	for _, s := range pairTrees() {
		turns, ok := impl.PairTurns(s)
		checkTurns(t, s, turns, ok, turnsOf(s))
		turned, _ := impl.TreeTurned(s)
		others, ok := impl.PairTurns(turned)
		checkTurns(t, turned, others, ok, turnsOf(mirrored(s)))
		if len(turns)+len(others) != max(0, len(innersOf(s))-1) {
			t.Errorf("PairTurns(%q) returned %q, and %q for the mirrored tree", s, turns, others)
		}
	}
}

// TestPromise66 checks for all pairs of trees of pairs whether the first one is below the second one, and the second one turned below the first one turned.
func TestPromise66(t *testing.T) {
	known := [impl.NodesMax + 1]int{1: 1, 3: 1, 5: 3, 7: 13, 9: 68}
	found := [impl.NodesMax + 1]int{}
	for _, s := range pairTrees() {
		checkBelow(t, s, s, true)
		for _, u := range pairTrees() {
			want := isBelow(s, u)
			checkBelow(t, s, u, want)
			checkBelow(t, mirrored(u), mirrored(s), want)
			if impl.PairBelow(s, u) {
				found[len(s)/2]++
			}
		}
	}
	if found != known {
		t.Errorf("%v pairs of trees are below each other instead of %v", found, known)
	}
}

func TestPairBelowExamples(t *testing.T) {
	for _, e := range []struct{ below, above string }{
		{"((()())())", "(()(()()))"},
		// Some turns behind each other.
		{"(((()())())())", "(()((()())()))"}, {"(((()())())())", "(()(()(()())))"}, {leaning(4), mirrored(leaning(4))},
	} {
		checkBelow(t, e.below, e.above, true)
		checkBelow(t, e.above, e.below, false)
	}
	for _, e := range []struct{ first, second string }{
		// Neither is below the other.
		{"((()())(()()))", "((()(()()))())"}, {"((()())(()()))", "(()((()())()))"},
		// Different numbers of nodes.
		{"()", "(()())"}, {"(()())", "((()())())"}, {"(()())", "(()(()()))"}, {leaning(3), leaning(4)}, {"()", mirrored(leaning(4))},
	} {
		checkBelow(t, e.first, e.second, false)
		checkBelow(t, e.second, e.first, false)
	}
}

// TestPromise67 checks the fewest turns of all pairs of trees of pairs: the same when both are exchanged or turned, none just for equal trees.
func TestPromise67(t *testing.T) {
	known := map[int]int{1: 0, 3: 0, 5: 1, 7: 2, 9: 4}
	for n, most := range known {
		greatest := 0
		for ends, want := range turnDistances(n) {
			s, u := ends[0], ends[1]
			far, ok := impl.PairFar(s, u)
			checkNumber(t, "PairFar", s+" "+u, far, ok, want)
			exchanged, ok := impl.PairFar(u, s)
			checkNumber(t, "PairFar", u+" "+s, exchanged, ok, far)
			turned, ok := impl.PairFar(mirrored(s), mirrored(u))
			checkNumber(t, "PairFar", mirrored(s)+" "+mirrored(u), turned, ok, far)
			if (far == 0) != (s == u) {
				t.Errorf("PairFar(%q, %q) returned %d", s, u, far)
			}
			greatest = max(greatest, far)
		}
		if greatest != most {
			t.Errorf("PairFar of trees of pairs with %d nodes is at most %d instead of %d", n, greatest, most)
		}
	}
}

func TestPairFarExamples(t *testing.T) {
	for _, e := range []struct {
		first, second string
		want          int
	}{
		{"()", "()", 0}, {"(()())", "(()())", 0}, {"(()(()()))", "(()(()()))", 0}, {leaning(4), leaning(4), 0},
		{"((()())())", "(()(()()))", 1}, {"((()())(()()))", "(()(()(()())))", 1}, {"((()())(()()))", "(((()())())())", 1},
		// One turn undone and one done, as neither tree is below the other.
		{"((()())(()()))", "((()(()()))())", 2}, {"((()())(()()))", "(()((()())()))", 2},
		{"(((()())())())", "(()(()(()())))", 2}, {leaning(4), mirrored(leaning(4)), 3},
	} {
		far, ok := impl.PairFar(e.first, e.second)
		checkNumber(t, "PairFar", e.first+" "+e.second, far, ok, e.want)
		far, ok = impl.PairFar(e.second, e.first)
		checkNumber(t, "PairFar", e.second+" "+e.first, far, ok, e.want)
	}
}

// TestPairFarOfOtherNumbersOfNodes has all pairs of trees of pairs with different numbers of nodes.
func TestPairFarOfOtherNumbersOfNodes(t *testing.T) {
	for _, s := range pairTrees() {
		for _, u := range pairTrees() {
			if len(s) != len(u) {
				checkNoFar(t, s, u)
			}
		}
	}
}

// unevenOf adds up the differences of the numbers of leaves at all nodes with two children.
func unevenOf(s string) int {
	uneven := 0
	for _, part := range innersOf(s) {
		kids := childrenOf(part)
		left, right := strings.Count(kids[0], "()"), strings.Count(kids[1], "()")
		uneven += max(left-right, right-left)
	}
	return uneven
}

// TestPromise68 checks how uneven all trees of pairs are: the same as their mirrored ones, and most of all if they lean wholly to one side.
func TestPromise68(t *testing.T) {
	for _, s := range pairTrees() {
		uneven, ok := impl.PairUneven(s)
		checkNumber(t, "PairUneven", s, uneven, ok, unevenOf(s))
		turned, _ := impl.TreeTurned(s)
		again, ok := impl.PairUneven(turned)
		checkNumber(t, "PairUneven", turned, again, ok, uneven)
		if inner := len(innersOf(s)); uneven < 0 || 2*uneven > inner*(inner-1) {
			t.Errorf("PairUneven(%q) returned %d, with %d inner nodes", s, uneven, inner)
		}
	}
	for n := range 5 {
		for _, s := range []string{leaning(n), mirrored(leaning(n))} {
			uneven, ok := impl.PairUneven(s)
			checkNumber(t, "PairUneven", s, uneven, ok, n*(n-1)/2)
		}
	}
}

// TestPromise69 checks how deep the leaves of all trees of pairs are: as deep as the inner nodes, and two more for each of these.
func TestPromise69(t *testing.T) {
	for _, s := range pairTrees() {
		leaves, inner := 0, 0
		for v, depth := range depthsOf(s) {
			if partsOf(s)[v] == "()" {
				leaves += depth
			} else {
				inner += depth
			}
		}
		deep, ok := impl.PairDeep(s)
		checkNumber(t, "PairDeep", s, deep, ok, leaves)
		checkNumber(t, "PairDeep", s, deep, ok, inner+2*len(innersOf(s)))
	}
}

// TestTreesThatAreNoTreesOfPairs has all of them; just PairOf may be asked for them.
func TestTreesThatAreNoTreesOfPairs(t *testing.T) {
	for _, s := range pairless() {
		checkPairless(t, s)
	}
}

func TestTurnsAtNoNode(t *testing.T) {
	eachNoNode(func(s string, v int) { checkNoTurn(t, s, v) })
	for _, s := range pairTrees() {
		for _, v := range noNodesOf(s) {
			checkNoTurn(t, s, v)
		}
	}
}

// TestPairsOfTextsThatAreNoTrees has texts that are no trees in each place.
func TestPairsOfTextsThatAreNoTrees(t *testing.T) {
	for _, s := range append(notTrees(), veryLongTexts()...) {
		checkNoPairsOf(t, s)
		checkPairless(t, s)
		for _, v := range noNodesOf("(()())") {
			checkNoTurn(t, s, v)
		}
	}
	// One of both texts is nearly the other one.
	for _, s := range pairTrees() {
		for _, other := range []string{s + "()", s + ")", s + " ", s + "\n", s[1:], "(" + s, s[:len(s)-1]} {
			checkBelow(t, s, other, false)
			checkBelow(t, other, s, false)
			checkNoFar(t, s, other)
			checkNoFar(t, other, s)
		}
	}
}

// TestTurnsAreNewMemory writes into a list of turns, and behind it, and looks at that of another call.
func TestTurnsAreNewMemory(t *testing.T) {
	for _, s := range pairTrees() {
		turns, _ := impl.PairTurns(s)
		clear(turns[:cap(turns)])
		_ = append(turns, "x")
		again, ok := impl.PairTurns(s)
		checkTurns(t, s, again, ok, turnsOf(s))
	}
}
