package tests

import (
	"math/bits"
	"slices"
	"testing"

	"loop.example/treenumbers/impl"
)

// numberCuts returns the functions of the chapter that tell a number, by name.
func numberCuts() map[string]func(string) (int, bool) {
	return map[string]func(string) (int, bool){
		"CutTops": impl.CutTops, "CutPieces": impl.CutPieces, "CutCount": impl.CutCount,
		"CutFree": impl.CutFree, "CutFreeCount": impl.CutFreeCount, "CutMatch": impl.CutMatch,
	}
}

// setsOf goes through all sets of nodes of a tree, as bits, and returns how many have a property, and the greatest number of nodes of one.
func setsOf(s string, has func(ups []int, set int) bool) (int, int) {
	ups := upsOf(s)
	count, greatest := 0, 0
	for set := range 1 << len(ups) {
		if has(ups, set) {
			count++
			greatest = max(greatest, bits.OnesCount(uint(set)))
		}
	}
	return count, greatest
}

// isTop tells whether a set has the root and, with each node, the one above it.
func isTop(ups []int, set int) bool {
	for v := 1; v < len(ups); v++ {
		if set>>v&1 == 1 && set>>ups[v]&1 == 0 {
			return false
		}
	}
	return set&1 == 1
}

// isPiece tells whether steps within a set lead from one node of it to all others.
func isPiece(ups []int, set int) bool {
	reached := 0
	for more := set & -set; more != reached; {
		reached = more
		for v := 1; v < len(ups); v++ {
			step := 1<<v | 1<<ups[v]
			if set&step == step && more&step != 0 {
				more |= step
			}
		}
	}
	return set != 0 && reached == set
}

// isCut tells whether a set has, for each leaf, just one of it and the nodes above it.
func isCut(ups []int, set int) bool {
	for leaf := range ups {
		if slices.Contains(ups, leaf) {
			continue
		}
		had := 0
		for v := leaf; v >= 0; v = ups[v] {
			had += set >> v & 1
		}
		if had != 1 {
			return false
		}
	}
	return true
}

// isFree tells whether no node of a set is the child of another one of it.
func isFree(ups []int, set int) bool {
	for v := 1; v < len(ups); v++ {
		if set>>v&1 == 1 && set>>ups[v]&1 == 1 {
			return false
		}
	}
	return true
}

// isMatching tells whether no two steps have a common node; a step is told by the child to which it leads, so the root tells none.
func isMatching(ups []int, steps int) bool {
	taken := 0
	for v := 1; v < len(ups); v++ {
		step := 1<<v | 1<<ups[v]
		if steps>>v&1 == 1 && taken&step != 0 {
			return false
		}
		if steps>>v&1 == 1 {
			taken |= step
		}
	}
	return steps&1 == 0
}

// openingOf returns where the opening bracket of a node is.
func openingOf(s string, v int) int {
	at := 0
	for s[at] != '(' || v > 0 {
		if s[at] == '(' {
			v--
		}
		at++
	}
	return at
}

// prunedText cuts the part of a node out of the text of a tree.
func prunedText(s string, v int) string {
	from := openingOf(s, v)
	return s[:from] + s[from+len(partsOf(s)[v]):]
}

// graftedText puts a text ahead of the closing bracket of a node.
func graftedText(s string, v int, u string) string {
	closing := openingOf(s, v) + len(partsOf(s)[v]) - 1
	return s[:closing] + u + s[closing:]
}

// bareText leaves out the children of each node that have no children.
func bareText(s string) string {
	text := "("
	for _, kid := range childrenOf(s) {
		if len(childrenOf(kid)) > 0 {
			text += bareText(kid)
		}
	}
	return text + ")"
}

// sameForFree checks that a function tells the same number of a tree and of the least tree that is free alike to it.
func sameForFree(t *testing.T, call, s string) {
	t.Helper()
	tell := numberCuts()[call]
	want, _ := tell(s)
	free, _ := impl.MiddleFree(s)
	got, ok := tell(free)
	checkNumber(t, call, free, got, ok, want)
}

// cutExample is what the functions of the chapter tell of a tree, worked out by hand; bare is empty for the node alone, which is nothing without its leaves.
type cutExample struct {
	tree                                           string
	tops, pieces, cuts, freest, freeSets, matching int
	bare                                           string
}

// cutExamples has the edge cases that the issue of the chapter names.
func cutExamples() []cutExample {
	return []cutExample{
		// A cut that has the root alone, and no step.
		{"()", 1, 1, 1, 1, 2, 0, ""},
		// Each node has one child at most.
		{"(())", 2, 3, 2, 1, 3, 1, "()"},
		{"((()))", 3, 6, 3, 2, 5, 1, "(())"},
		{"(((())))", 4, 10, 4, 2, 8, 2, "((()))"},
		{path(9), 9, 45, 9, 5, 89, 4, path(8)},
		// The root has one child.
		{"((()()))", 5, 11, 3, 3, 9, 1, "(())"},
		{"((()(())))", 7, 17, 4, 3, 14, 2, "((()))"},
		// Leaves only below the root.
		{"(()())", 4, 6, 2, 2, 5, 1, "()"},
		{star(9), 256, 264, 2, 8, 257, 1, "()"},
		// Leaves below the root, the first, the last and an inner child.
		{"(()(()))", 6, 10, 3, 2, 8, 2, "(())"},
		{"((()())())", 10, 17, 3, 3, 14, 2, "(())"},
		{"((()())()())", 20, 28, 3, 4, 24, 2, "(())"},
		{"(()()(()()))", 20, 28, 3, 4, 24, 2, "(())"},
		{"(()(()())())", 20, 28, 3, 4, 24, 2, "(())"},
		// Leaves below several children.
		{"((())(()))", 9, 15, 5, 3, 13, 2, "(()())"},
		{"((()())(()()))", 25, 37, 5, 5, 41, 2, "(()())"},
		{"((())(())(())(()))", 81, 93, 17, 5, 97, 4, star(5)},
	}
}

func TestCutExamples(t *testing.T) {
	for _, e := range cutExamples() {
		for call, want := range map[string]int{
			"CutTops": e.tops, "CutPieces": e.pieces, "CutCount": e.cuts,
			"CutFree": e.freest, "CutFreeCount": e.freeSets, "CutMatch": e.matching,
		} {
			got, ok := numberCuts()[call](e.tree)
			checkNumber(t, call, e.tree, got, ok, want)
		}
		if bare, ok := impl.CutLeaf(e.tree); bare != e.bare || ok != (e.bare != "") {
			t.Errorf("CutLeaf(%q) returned %q, %v instead of %q", e.tree, bare, ok, e.bare)
		}
	}
}

// TestPromise52 checks the tops of all trees: they are as many as the nodes at least, and one node more as the root makes one more.
func TestPromise52(t *testing.T) {
	for _, s := range treesUpTo(impl.NodesMax) {
		want, _ := setsOf(s, isTop)
		tops, ok := impl.CutTops(s)
		checkNumber(t, "CutTops", s, tops, ok, want)
		if nodes, _ := impl.TreeNodes(s); tops < nodes {
			t.Errorf("CutTops(%q) returned %d, with %d nodes", s, tops, nodes)
		}
		if planted, isTree := impl.TreeOf([]string{s}); isTree {
			more, ok := impl.CutTops(planted)
			checkNumber(t, "CutTops", planted, more, ok, tops+1)
		}
	}
}

// TestPromise53 checks the pieces of all trees: they are the same wherever the root is, and not fewer than the tops.
func TestPromise53(t *testing.T) {
	for _, s := range treesUpTo(impl.NodesMax) {
		want, _ := setsOf(s, isPiece)
		pieces, ok := impl.CutPieces(s)
		checkNumber(t, "CutPieces", s, pieces, ok, want)
		sameForFree(t, "CutPieces", s)
		if tops, _ := impl.CutTops(s); pieces < tops {
			t.Errorf("CutPieces(%q) returned %d, with %d tops", s, pieces, tops)
		}
	}
}

// TestPromise54 checks the cuts of all trees against the tops of what is left without the leaves.
func TestPromise54(t *testing.T) {
	for _, s := range treesUpTo(impl.NodesMax) {
		want, _ := setsOf(s, isCut)
		cuts, ok := impl.CutCount(s)
		checkNumber(t, "CutCount", s, cuts, ok, want)
		bare, hasBare := impl.CutLeaf(s)
		if hasBare != (s != "()") {
			t.Errorf("CutLeaf(%q) returned %q, %v", s, bare, hasBare)
		}
		if hasBare {
			tops, _ := impl.CutTops(bare)
			checkNumber(t, "CutCount", s, cuts, ok, tops+1)
		}
	}
}

// TestPromise55 checks the greatest free sets of all trees: with the greatest matchings they are all nodes, and they are not less than the leaves.
func TestPromise55(t *testing.T) {
	for _, s := range treesUpTo(impl.NodesMax) {
		_, want := setsOf(s, isFree)
		freest, ok := impl.CutFree(s)
		checkNumber(t, "CutFree", s, freest, ok, want)
		matching, _ := impl.CutMatch(s)
		nodes, _ := impl.TreeNodes(s)
		leaves, _ := impl.TreeLeaves(s)
		if freest+matching != nodes || freest < leaves {
			t.Errorf("CutFree(%q) returned %d, with a matching of %d, %d nodes and %d leaves", s, freest, matching, nodes, leaves)
		}
	}
}

// TestPromise56 checks the numbers of free sets of all trees: they are the same wherever the root is, and all sets in a greatest one are among them.
func TestPromise56(t *testing.T) {
	for _, s := range treesUpTo(impl.NodesMax) {
		want, _ := setsOf(s, isFree)
		count, ok := impl.CutFreeCount(s)
		checkNumber(t, "CutFreeCount", s, count, ok, want)
		sameForFree(t, "CutFreeCount", s)
		freest, _ := impl.CutFree(s)
		nodes, _ := impl.TreeNodes(s)
		if count < 1<<freest || count > 1<<nodes {
			t.Errorf("CutFreeCount(%q) returned %d, with %d nodes, and %d of them free", s, count, nodes, freest)
		}
	}
}

// TestPromise57 checks the greatest matchings of all trees: they have no step just in the node alone, and are the same wherever the root is.
func TestPromise57(t *testing.T) {
	for _, s := range treesUpTo(impl.NodesMax) {
		_, want := setsOf(s, isMatching)
		matching, ok := impl.CutMatch(s)
		checkNumber(t, "CutMatch", s, matching, ok, want)
		sameForFree(t, "CutMatch", s)
		nodes, _ := impl.TreeNodes(s)
		if 2*matching > nodes || (matching == 0) != (nodes == 1) {
			t.Errorf("CutMatch(%q) returned %d, with %d nodes", s, matching, nodes)
		}
	}
}

// TestPromise58 checks, for all nodes of all trees, the tree without the part of the node, which fails for the root; grafted again it is alike.
func TestPromise58(t *testing.T) {
	for _, s := range treesUpTo(impl.NodesMax) {
		if pruned, ok := impl.CutPrune(s, 0); ok || pruned != "" {
			t.Errorf("CutPrune(%q, 0) returned %q, %v", s, pruned, ok)
		}
		ups := upsOf(s)
		for v := 1; v < len(ups); v++ {
			pruned, ok := impl.CutPrune(s, v)
			checkText(t, "CutPrune", s, pruned, ok, prunedText(s, v))
			part, _ := impl.TreePart(s, v)
			left, _ := impl.TreeNodes(pruned)
			cut, _ := impl.TreeNodes(part)
			again, grafted := impl.CutGraft(pruned, ups[v], part)
			if left+cut != len(ups) || !grafted || !impl.TreeAlike(again, s) {
				t.Errorf("CutPrune(%q, %d) returned %q, and grafted again it is %q", s, v, pruned, again)
			}
		}
	}
}

func TestCutPruneExamples(t *testing.T) {
	for _, e := range []struct {
		tree string
		v    int
		want string
	}{
		{"(())", 1, "()"}, {"((()))", 1, "()"}, {"((()))", 2, "(())"},
		{"(()(()))", 1, "((()))"}, {"(()(()))", 2, "(())"}, {"(()(()))", 3, "(()())"},
		{"((()(()))())", 1, "(())"}, {"((()(()))())", 2, "(((()))())"}, {"((()(()))())", 3, "((())())"},
		{"((()(()))())", 4, "((()())())"}, {"((()(()))())", 5, "((()(())))"},
		{path(9), 1, "()"}, {path(9), 8, path(8)}, {star(9), 1, star(8)}, {star(9), 8, star(8)},
	} {
		pruned, ok := impl.CutPrune(e.tree, e.v)
		checkText(t, "CutPrune", e.tree, pruned, ok, e.want)
	}
}

// TestPromise59 grafts onto all nodes of all trees, the root among them, all trees for which the result has room; pruned again it leads back.
func TestPromise59(t *testing.T) {
	for n := 1; n < impl.NodesMax; n++ {
		for _, s := range treesOf(n) {
			for _, u := range treesUpTo(impl.NodesMax - n) {
				checkGrafts(t, s, u)
			}
		}
	}
}

// checkGrafts grafts a tree onto all nodes of another one.
func checkGrafts(t *testing.T, s, u string) {
	t.Helper()
	for v, part := range partsOf(s) {
		grafted, ok := impl.CutGraft(s, v, u)
		checkText(t, "CutGraft", s, grafted, ok, graftedText(s, v, u))
		behind := v + len(part)/2
		kid, _ := impl.TreePart(grafted, behind)
		back, _ := impl.CutPrune(grafted, behind)
		if kid != u || back != s {
			t.Errorf("CutGraft(%q, %d, %q) returned %q, with %q as the part of %d, and %q without it", s, v, u, grafted, kid, behind, back)
		}
	}
}

// TestGraftsWithOneNodeMore has all pairs of trees that have one node more than a tree when they are grafted.
func TestGraftsWithOneNodeMore(t *testing.T) {
	for n := 1; n <= impl.NodesMax; n++ {
		for _, s := range treesOf(n) {
			for _, u := range treesOf(impl.NodesMax + 1 - n) {
				for v := range n {
					checkNoGraft(t, s, v, u)
				}
			}
		}
	}
	for _, s := range []string{path(impl.NodesMax), star(impl.NodesMax)} {
		checkNoGraft(t, s, 0, s)
		checkNoGraft(t, s, impl.NodesMax-1, s)
	}
}

func TestCutGraftExamples(t *testing.T) {
	for _, e := range []struct {
		tree  string
		v     int
		graft string
		want  string
	}{
		{"()", 0, "()", "(())"}, {"()", 0, "(()())", "((()()))"}, {"()", 0, path(8), path(9)}, {"()", 0, star(8), "(" + star(8) + ")"},
		{"(())", 0, "()", "(()())"}, {"(())", 1, "()", "((()))"}, {"((()))", 1, "(()())", "((()(()())))"},
		// What is grafted is the last child, whatever the order of trees tells.
		{"(()(()))", 0, "((()))", "(()(())((())))"}, {"(()(()))", 1, "(())", "(((()))(()))"},
		{"(()(()))", 2, "(())", "(()(()(())))"}, {"(()(()))", 3, "()", "(()((())))"},
		{path(8), 0, "()", "(" + path(7) + "())"}, {path(8), 7, "()", path(9)}, {path(5), 4, path(4), path(9)},
		{star(8), 0, "()", star(9)}, {star(8), 7, "()", "(()()()()()()(()))"},
	} {
		grafted, ok := impl.CutGraft(e.tree, e.v, e.graft)
		checkText(t, "CutGraft", e.tree, grafted, ok, e.want)
	}
}

// TestPromise60 checks all trees without their leaves: one less high, with the nodes that are no leaves; the node alone has none.
func TestPromise60(t *testing.T) {
	checkNoBare(t, "()")
	for _, s := range treesUpTo(impl.NodesMax)[1:] {
		bare, ok := impl.CutLeaf(s)
		checkText(t, "CutLeaf", s, bare, ok, bareText(s))
		high, _ := impl.TreeHeight(s)
		height, _ := impl.TreeHeight(bare)
		nodes, _ := impl.TreeNodes(s)
		left, _ := impl.TreeNodes(bare)
		leaves, _ := impl.TreeLeaves(s)
		if height != high-1 || left != nodes-leaves {
			t.Errorf("CutLeaf(%q) returned %q", s, bare)
		}
	}
}

// checkNoBare checks that a text has no tree without leaves.
func checkNoBare(t *testing.T, s string) {
	t.Helper()
	if bare, ok := impl.CutLeaf(s); ok || bare != "" {
		t.Errorf("CutLeaf(%q) with %d bytes returned %q, %v", s[:min(len(s), 40)], len(s), bare, ok)
	}
}

// checkNoPrune checks that nothing can be pruned.
func checkNoPrune(t *testing.T, s string, v int) {
	t.Helper()
	if pruned, ok := impl.CutPrune(s, v); ok || pruned != "" {
		t.Errorf("CutPrune(%q, %d) with %d bytes returned %q, %v", s[:min(len(s), 40)], v, len(s), pruned, ok)
	}
}

// checkNoGraft checks that nothing can be grafted.
func checkNoGraft(t *testing.T, s string, v int, u string) {
	t.Helper()
	if grafted, ok := impl.CutGraft(s, v, u); ok || grafted != "" {
		t.Errorf("CutGraft(%q, %d, %q) with %d and %d bytes returned %q, %v", s[:min(len(s), 40)], v, u[:min(len(u), 40)], len(s), len(u), grafted, ok)
	}
}

func TestCutsAtNoNode(t *testing.T) {
	eachNoNode(func(s string, v int) {
		checkNoPrune(t, s, v)
		checkNoGraft(t, s, v, "()")
	})
}

// TestCutsOfTextsThatAreNoTrees has texts that are no trees in each place; some of them would make a tree together with another one.
func TestCutsOfTextsThatAreNoTrees(t *testing.T) {
	checkNoTrees(t, numberCuts(), nil)
	for _, s := range append(notTrees(), veryLongTexts()...) {
		checkNoBare(t, s)
		for _, v := range append(noNodesOf("(())"), 0, 1) {
			checkNoPrune(t, s, v)
			checkNoGraft(t, s, v, "()")
			checkNoGraft(t, "(())", v, s)
			checkNoGraft(t, s, v, s)
		}
	}
}
