package tests

import (
	"math"
	"slices"
	"strings"
	"testing"

	"loop.example/treenumbers/impl"
)

// treesOf returns all trees with n nodes, made without the program, so that it can be held against them.
func treesOf(n int) []string {
	trees := []string{}
	for _, kids := range forestsOf(n - 1) {
		trees = append(trees, "("+kids+")")
	}
	return trees
}

// forestsOf returns all texts of trees behind each other with n nodes together.
func forestsOf(n int) []string {
	if n == 0 {
		return []string{""}
	}
	forests := []string{}
	for k := 1; k <= n; k++ {
		rest := forestsOf(n - k)
		for _, first := range treesOf(k) {
			for _, others := range rest {
				forests = append(forests, first+others)
			}
		}
	}
	return forests
}

// treesUpTo returns all trees with 1 to n nodes.
func treesUpTo(n int) []string {
	trees := []string{}
	for k := 1; k <= n; k++ {
		trees = append(trees, treesOf(k)...)
	}
	return trees
}

// path returns the tree with n nodes in which each node has one child at most.
func path(n int) string {
	return strings.Repeat("(", n) + strings.Repeat(")", n)
}

// star returns the tree with n nodes in which all but the root are leaves.
func star(n int) string {
	return "(" + strings.Repeat("()", n-1) + ")"
}

// notTrees returns texts that are no trees.
func notTrees() []string {
	return []string{
		"", "(", ")", ")(", "(()", "((", "())", "()()", "(())()", "()(())", "(()))(()", "()(", "())(", "(()()",
		"x", " ", "x()", "()x", " ()", "() ", "( )", "(x)", "(()x())", "()\n", "\n()", "(\n)", "()\x00", "\x00", "(\xff)",
		"[]", "{}", "<>", "([])", "（）", "0", "-1",
		path(impl.NodesMax + 1), star(impl.NodesMax + 1), "(" + path(impl.NodesMax-1) + "())",
		strings.Repeat("(", 1000), strings.Repeat(")", 1000), path(1000), star(1000),
	}
}

// veryLongTexts returns texts of up to 2 MiB that are no trees.
func veryLongTexts() []string {
	return []string{strings.Repeat("(", 1<<20), strings.Repeat("()", 1<<20), path(1 << 20), star(1 << 20)}
}

// noNodesOf returns numbers that no node of a tree has.
func noNodesOf(s string) []int {
	n := len(s) / 2
	return []int{-1, -2, -n, n, n + 1, 2 * n, 1 << 32, math.MinInt, math.MaxInt}
}

// eachNoNode checks trees together with each number that no node of them has.
func eachNoNode(check func(s string, v int)) {
	trees := append(treesUpTo(5), path(impl.NodesMax-1), star(impl.NodesMax-1), path(impl.NodesMax), star(impl.NodesMax))
	for _, s := range trees {
		for _, v := range noNodesOf(s) {
			check(s, v)
		}
	}
}

// childrenOf cuts the text of a tree into the texts of the children of its root.
func childrenOf(s string) []string {
	kids := []string{}
	depth, from := 0, 1
	for i := 1; i < len(s)-1; i++ {
		if s[i] == '(' {
			depth++
		} else {
			depth--
		}
		if depth == 0 {
			kids = append(kids, s[from:i+1])
			from = i + 1
		}
	}
	return kids
}

// partsOf cuts out of the text of a tree the parts of all nodes, in order.
func partsOf(s string) []string {
	parts := []string{s}
	for _, kid := range childrenOf(s) {
		parts = append(parts, partsOf(kid)...)
	}
	return parts
}

// depthsOf returns the depths of all nodes of a tree, in order.
func depthsOf(s string) []int {
	depths := []int{}
	depth := 0
	for i := range s {
		if s[i] == '(' {
			depths = append(depths, depth)
			depth++
		} else {
			depth--
		}
	}
	return depths
}

// mirrored returns the text read backwards with its brackets exchanged.
func mirrored(s string) string {
	out := []byte(s)
	slices.Reverse(out)
	for i := range out {
		out[i] = '(' + ')' - out[i]
	}
	return string(out)
}

// matched tells whether two trees are alike by looking, for each child of one, for a child of the other.
func matched(s, t string) bool {
	kids, others := childrenOf(s), childrenOf(t)
	if len(kids) != len(others) {
		return false
	}
	for _, kid := range kids {
		i := slices.IndexFunc(others, func(other string) bool { return matched(kid, other) })
		if i < 0 {
			return false
		}
		others = slices.Delete(others, i, i+1)
	}
	return true
}

// checkText checks a text that came with true.
func checkText(t *testing.T, call, arg, got string, ok bool, want string) {
	t.Helper()
	if !ok || got != want {
		t.Errorf("%s(%q) returned %q, %v instead of %q, true", call, arg, got, ok, want)
	}
}

// checkNumber checks a number that came with true.
func checkNumber(t *testing.T, call, arg string, got int, ok bool, want int) {
	t.Helper()
	if !ok || got != want {
		t.Errorf("%s(%q) returned %d, %v instead of %d, true", call, arg, got, ok, want)
	}
}

// checkTexts checks a function that makes texts of texts against examples.
func checkTexts(t *testing.T, call string, f func(string) (string, bool), examples map[string]string) {
	t.Helper()
	for arg, want := range examples {
		got, ok := f(arg)
		checkText(t, call, arg, got, ok, want)
	}
}

// checkNoTrees checks that functions, by name, fail for texts that are no trees.
func checkNoTrees(t *testing.T, numbers map[string]func(string) (int, bool), lists map[string]func(string) ([]int, bool)) {
	t.Helper()
	for _, s := range append(notTrees(), veryLongTexts()...) {
		shown := s[:min(len(s), 40)]
		for call, f := range numbers {
			if n, ok := f(s); ok || n != 0 {
				t.Errorf("%s(%q) with %d bytes returned %d, %v", call, shown, len(s), n, ok)
			}
		}
		for call, f := range lists {
			if x, ok := f(s); ok || len(x) != 0 {
				t.Errorf("%s(%q) with %d bytes returned %v, %v", call, shown, len(s), x, ok)
			}
		}
	}
}

// checkNewLists writes into the result of each function, and behind it, and looks at that of another call.
func checkNewLists(t *testing.T, lists map[string]func(string) ([]int, bool), s string, want map[string][]int) {
	t.Helper()
	for call, f := range lists {
		x, _ := f(s)
		clear(x[:cap(x)])
		_ = append(x, 9)
		again, ok := f(s)
		checkList(t, call, s, again, ok, want[call])
	}
}
