package tests

import (
	"math"
	"math/big"
	"slices"
	"testing"

	"loop.example/treenumbers/impl"
)

// primesTo returns all primes of at most n, made without the program, so that it can be held against them.
func primesTo(n int) []int {
	primes := []int{}
	for p := 2; p <= n; p++ {
		if big.NewInt(int64(p)).ProbablyPrime(0) {
			primes = append(primes, p)
		}
	}
	return primes
}

// codeWithin returns the code of a tree by its definition, over a list of all primes up to some number, or 0 if the list is too short.
func codeWithin(s string, primes []int) int {
	code := 1
	for _, kid := range childrenOf(s) {
		place := codeWithin(kid, primes)
		if place < 1 || place > len(primes) {
			return 0
		}
		code *= primes[place-1]
	}
	return code
}

// codesOf returns, for all trees with up to n nodes, their codes by definition, also those greater than CodeMax: with 9 nodes they are at most 19577.
func codesOf(t *testing.T, n int) map[string]int {
	t.Helper()
	primes := primesTo(20000)
	codes := map[string]int{}
	for _, s := range treesUpTo(n) {
		codes[s] = codeWithin(s, primes)
		if codes[s] == 0 {
			t.Fatalf("the list of primes is too short for %q", s)
		}
	}
	return codes
}

// nodesUpTo returns, for the numbers from 0 on up to n, the numbers of nodes of the trees with these codes by definition, 0 for 0.
func nodesUpTo(n int) []int {
	nodes := make([]int, n+1)
	primes := primesTo(n)
	for code := 1; code <= n; code++ {
		nodes[code] = 1
		rest := code
		for i, p := range primes {
			for rest%p == 0 {
				nodes[code] += nodes[i+1]
				rest /= p
			}
		}
	}
	return nodes
}

// joinedText returns the text of two trees whose roots are made one, the children of the second one being the last ones.
func joinedText(s, u string) string {
	return s[:len(s)-1] + u[1:]
}

// inOrder tells whether the children do not fall, as texts, at any node of a tree.
func inOrder(s string) bool {
	for _, part := range partsOf(s) {
		if !slices.IsSorted(childrenOf(part)) {
			return false
		}
	}
	return true
}

// notCodes returns numbers that are no codes.
func notCodes() []int {
	return []int{
		0, -1, -2, -3, -impl.CodeMax, -impl.CodeMax - 1, math.MinInt, math.MinInt + 1, math.MinInt32,
		impl.CodeMax + 1, impl.CodeMax + 2, impl.CodeMax + 3, 2 * impl.CodeMax, 8192, 10007, 1 << 32, 1<<32 + 1, math.MaxInt32, math.MaxInt - 1, math.MaxInt,
	}
}

// checkAnswer checks the number that came for a number, with true just if one is wanted, which is 0 otherwise.
func checkAnswer(t *testing.T, call string, arg, got int, ok bool, want int) {
	t.Helper()
	if ok != (want != 0) || got != want {
		t.Errorf("%s(%d) returned %d, %v instead of %d, %v", call, arg, got, ok, want, want != 0)
	}
}

func TestConstantCodeMax(t *testing.T) {
	if impl.CodeMax != 5000 {
		t.Errorf("CodeMax is %d", impl.CodeMax)
	}
}

// TestTheCode1 checks each function of the chapter for the code 1 and the node alone.
func TestTheCode1(t *testing.T) {
	s := "()"
	n, ok := impl.CodeOf(s)
	checkNumber(t, "CodeOf", s, n, ok, 1)
	x, ok := impl.CodeTree(1)
	checkText(t, "CodeTree", "1", x, ok, s)
	n, ok = impl.CodePrime(1)
	checkAnswer(t, "CodePrime", 1, n, ok, 2)
	n, ok = impl.CodePlace(1)
	checkAnswer(t, "CodePlace", 1, n, ok, 0)
	n, ok = impl.CodeNodes(1)
	checkAnswer(t, "CodeNodes", 1, n, ok, 1)
	x, ok = impl.CodeJoin(s, s)
	checkText(t, "CodeJoin", s, x, ok, s)
	if impl.CodeLess(s, s) || !impl.CodeLess(s, "(())") || impl.CodeLess("(())", s) {
		t.Errorf("the code 1 is less than itself, not less than 2, or greater than 2")
	}
}

func TestCodesOfKnownTrees(t *testing.T) {
	codes := map[string]int{
		"()": 1, "(())": 2, "((()))": 3, "(()())": 4, "(((())))": 5, "(()(()))": 6, "((())())": 6, "((()()))": 7, "(()()())": 8,
		"((())(()))": 9, "((((()))))": 11, "(()(()()))": 14, "((())(())(()))": 27, "((()()())((())))": 95, "(((()()())))": 67,
		path(6): 31, path(7): 127, path(8): 709, star(8): 128, star(9): 256,
	}
	for s, want := range codes {
		n, ok := impl.CodeOf(s)
		checkNumber(t, "CodeOf", s, n, ok, want)
	}
}

// TestCodeOfTellsAllTrees holds CodeOf, for all trees, against their codes by definition, some of which are greater than CodeMax.
func TestCodeOfTellsAllTrees(t *testing.T) {
	for s, want := range codesOf(t, impl.NodesMax) {
		n, ok := impl.CodeOf(s)
		if want <= impl.CodeMax {
			checkNumber(t, "CodeOf", s, n, ok, want)
		} else if ok || n != 0 {
			t.Errorf("CodeOf(%q) returned %d, %v", s, n, ok)
		}
	}
}

// TestCodesAtCodeMax has the trees with the greatest codes of at most CodeMax, and trees with codes beyond it, the least and the greatest one among them.
// With NodesMax nodes no child has a code beyond it, 2221 being the greatest one: what is too great first is the prime whose place such a code tells.
func TestCodesAtCodeMax(t *testing.T) {
	codes := map[string]int{
		"(((((()()())))()))": 4951, "((((((()())))())))": 4801, "(((((()()()))))())": 4442, "(((((()()())))))": 2221, "((((((()()))))))": 1787,
	}
	for s, want := range codes {
		n, ok := impl.CodeOf(s)
		checkNumber(t, "CodeOf", s, n, ok, want)
	}
	for _, s := range []string{path(9), "(((((((()())))))))", "((((((()()()))))))"} {
		if n, ok := impl.CodeOf(s); ok || n != 0 {
			t.Errorf("CodeOf(%q) returned %d, %v", s, n, ok)
		}
	}
}

// TestPromise10 checks, for all trees, that the code leads back to the tree in order and tells the number of nodes.
func TestPromise10(t *testing.T) {
	for _, s := range treesUpTo(impl.NodesMax) {
		code, ok := impl.CodeOf(s)
		if !ok {
			continue
		}
		sorted, _ := impl.TreeSorted(s)
		back, ok := impl.CodeTree(code)
		checkText(t, "CodeTree of CodeOf", s, back, ok, sorted)
		n, ok := impl.CodeNodes(code)
		checkNumber(t, "CodeNodes of CodeOf", s, n, ok, len(s)/2)
	}
}

// TestPromise11 checks, for all codes, that the tree leads back and is in order, and that it fails just for too many nodes.
func TestPromise11(t *testing.T) {
	for n, nodes := range nodesUpTo(impl.CodeMax) {
		s, ok := impl.CodeTree(n)
		if n == 0 || nodes > impl.NodesMax {
			if ok || s != "" {
				t.Errorf("CodeTree(%d) returned %q, %v", n, s, ok)
			}
			continue
		}
		if !ok || len(s) != 2*nodes || !impl.TreeIn(s) || !inOrder(s) {
			t.Errorf("CodeTree(%d) returned %q, %v", n, s, ok)
		}
		back, ok := impl.CodeOf(s)
		checkNumber(t, "CodeOf", s, back, ok, n)
	}
}

func TestCodeTreeExamples(t *testing.T) {
	trees := map[int]string{
		1: "()", 2: "(())", 3: "((()))", 4: "(()())", 5: "(((())))", 6: "((())())", 9: "((())(()))", 14: "((()())())", 127: path(7),
		30: "(((()))(())())", 256: star(9), 4951: "(((((()()())))()))", 709: path(8),
	}
	for n, want := range trees {
		s, ok := impl.CodeTree(n)
		if !ok || s != want {
			t.Errorf("CodeTree(%d) returned %q, %v instead of %q, true", n, s, ok, want)
		}
	}
}

// TestCodesOfLargeTrees has codes of at most CodeMax whose trees have one node more than NodesMax, or many more.
func TestCodesOfLargeTrees(t *testing.T) {
	for n, nodes := range map[int]int{125: 10, 512: 10, 225: 11, 4999: 11, 1024: 11, 4096: 13, 3125: 16, impl.CodeMax: 16} {
		if s, ok := impl.CodeTree(n); ok || s != "" {
			t.Errorf("CodeTree(%d) returned %q, %v", n, s, ok)
		}
		got, ok := impl.CodeNodes(n)
		checkAnswer(t, "CodeNodes", n, got, ok, nodes)
	}
}

func TestNumbersThatAreNoCodes(t *testing.T) {
	for _, n := range notCodes() {
		if s, ok := impl.CodeTree(n); ok || s != "" {
			t.Errorf("CodeTree(%d) returned %q, %v", n, s, ok)
		}
		nodes, ok := impl.CodeNodes(n)
		checkAnswer(t, "CodeNodes", n, nodes, ok, 0)
		prime, ok := impl.CodePrime(n)
		checkAnswer(t, "CodePrime", n, prime, ok, 0)
		place, ok := impl.CodePlace(n)
		checkAnswer(t, "CodePlace", n, place, ok, 0)
	}
}

// TestPromise12 checks all places of primes of at most CodeMax, and places behind and ahead of them.
func TestPromise12(t *testing.T) {
	primes := primesTo(impl.CodeMax)
	for k := -10; k <= impl.CodeMax; k++ {
		want := 0
		if k >= 1 && k <= len(primes) {
			want = primes[k-1]
		}
		p, ok := impl.CodePrime(k)
		checkAnswer(t, "CodePrime", k, p, ok, want)
		if !ok {
			continue
		}
		place, ok := impl.CodePlace(p)
		checkAnswer(t, "CodePlace", p, place, ok, k)
		if p <= k {
			t.Errorf("CodePrime(%d) returned %d", k, p)
		}
	}
}

// TestPromise13 checks all numbers of at most CodeMax, those that are no primes among them, and numbers beyond it.
func TestPromise13(t *testing.T) {
	primes := primesTo(impl.CodeMax)
	for p := -10; p <= 2*impl.CodeMax; p++ {
		i, found := slices.BinarySearch(primes, p)
		want := 0
		if found {
			want = i + 1
		}
		k, ok := impl.CodePlace(p)
		checkAnswer(t, "CodePlace", p, k, ok, want)
		if ok {
			back, ok := impl.CodePrime(k)
			checkAnswer(t, "CodePrime", k, back, ok, p)
		}
	}
}

// TestPrimesAtCodeMax has the places 0 and 1, the greatest prime of at most CodeMax, and what is beside them.
func TestPrimesAtCodeMax(t *testing.T) {
	for k, want := range map[int]int{-1: 0, 0: 0, 1: 2, 2: 3, 3: 5, 4: 7, 668: 4993, 669: 4999, 670: 0, 671: 0} {
		p, ok := impl.CodePrime(k)
		checkAnswer(t, "CodePrime", k, p, ok, want)
	}
	for p, want := range map[int]int{0: 0, 1: 0, 2: 1, 3: 2, 4: 0, 5: 3, 4993: 668, 4997: 0, 4998: 0, 4999: 669, 5000: 0, 5003: 0, 5009: 0} {
		k, ok := impl.CodePlace(p)
		checkAnswer(t, "CodePlace", p, k, ok, want)
	}
}

// TestPromise14 checks, for all trees, that the prime with the code as its place is the code of the tree whose root has this tree as its child.
func TestPromise14(t *testing.T) {
	for _, s := range treesUpTo(impl.NodesMax) {
		code, ok := impl.CodeOf(s)
		above, isTree := impl.TreeOf([]string{s})
		if !ok || !isTree {
			continue
		}
		prime, ok := impl.CodePrime(code)
		n, okToo := impl.CodeOf(above)
		if ok != okToo || n != prime {
			t.Errorf("CodePrime(%d) returned %d, %v, but CodeOf(%q) returned %d, %v", code, prime, ok, above, n, okToo)
		}
	}
}

// TestPromise15 checks CodeNodes for all codes, and that twice a code has one node more.
func TestPromise15(t *testing.T) {
	for n, want := range nodesUpTo(impl.CodeMax) {
		nodes, ok := impl.CodeNodes(n)
		checkAnswer(t, "CodeNodes", n, nodes, ok, want)
		if n >= 1 && n <= impl.CodeMax/2 {
			twice, ok := impl.CodeNodes(2 * n)
			checkAnswer(t, "CodeNodes", 2*n, twice, ok, nodes+1)
		}
	}
}

// TestPromise16 joins, both ways round, all pairs of trees whose joined tree has at most one node more than NodesMax.
func TestPromise16(t *testing.T) {
	codes := codesOf(t, impl.NodesMax)
	for n := 1; n <= impl.NodesMax; n++ {
		for m := n; m <= impl.NodesMax && n+m-1 <= impl.NodesMax+1; m++ {
			for _, s := range treesOf(n) {
				for _, u := range treesOf(m) {
					checkJoin(t, s, u, codes[s]*codes[u])
				}
			}
		}
	}
}

func checkJoin(t *testing.T, s, u string, product int) {
	t.Helper()
	text := joinedText(s, u)
	joined, ok := impl.CodeJoin(s, u)
	other, okToo := impl.CodeJoin(u, s)
	if ok != okToo || joined != other {
		t.Errorf("CodeJoin of %q and %q returned %q, %v, and %q, %v the other way round", s, u, joined, ok, other, okToo)
	}
	if len(text) > 2*impl.NodesMax {
		if ok || joined != "" {
			t.Errorf("CodeJoin(%q, %q) returned %q, %v", s, u, joined, ok)
		}
		return
	}
	if !ok || !inOrder(joined) || !matched(joined, text) {
		t.Errorf("CodeJoin(%q, %q) returned %q, %v", s, u, joined, ok)
	}
	if n, ok := impl.CodeOf(joined); ok != (product <= impl.CodeMax) || ok && n != product {
		t.Errorf("CodeOf(%q) returned %d, %v instead of %d", joined, n, ok, product)
	}
}

func TestCodeJoinExamples(t *testing.T) {
	for _, x := range []struct{ s, u, want string }{
		{"()", "(()(()))", "((())())"},
		{"(()(()))", "((()()))", "((()())(())())"},
		{"(())", "((()))", "((())())"},
		{path(8), "(())", "(" + path(7) + "())"},
		{star(5), star(5), star(9)},
		{"()", path(9), path(9)},
		{path(9), "()", path(9)},
		{"()", "((()(((()()))))())", "(((((()())))())())"},
	} {
		joined, ok := impl.CodeJoin(x.s, x.u)
		checkText(t, "CodeJoin of "+x.s+" and", x.u, joined, ok, x.want)
	}
}

// TestCodeJoinAtTheLimit has pairs of trees with NodesMax nodes together in the joined tree, and one more, and twice as many.
func TestCodeJoinAtTheLimit(t *testing.T) {
	for n := 1; n <= impl.NodesMax; n++ {
		for m := 1; m <= impl.NodesMax; m++ {
			for _, pair := range [][2]string{{path(n), path(m)}, {star(n), star(m)}, {path(n), star(m)}} {
				x, ok := impl.CodeJoin(pair[0], pair[1])
				if fits := n+m-1 <= impl.NodesMax; ok != fits || !fits && x != "" || fits && len(x) != 2*(n+m-1) {
					t.Errorf("CodeJoin(%q, %q) returned %q, %v", pair[0], pair[1], x, ok)
				}
			}
		}
	}
}

// TestPromise17 checks, for all pairs of trees with up to 6 nodes, which code is less, both ways round.
func TestPromise17(t *testing.T) {
	codes := codesOf(t, 6)
	for s := range codes {
		for u := range codes {
			less := impl.CodeLess(s, u)
			if less != (codes[s] < codes[u]) {
				t.Errorf("CodeLess(%q, %q) returned %v", s, u, less)
			}
			if less && (impl.CodeLess(u, s) || impl.TreeAlike(s, u)) {
				t.Errorf("CodeLess holds for %q and %q, which are exchanged too, or alike", s, u)
			}
		}
	}
}

// TestCodeLessBeyondCodeMax compares all trees of NodesMax nodes, of which some have codes greater than CodeMax, with a few ones.
func TestCodeLessBeyondCodeMax(t *testing.T) {
	codes := codesOf(t, impl.NodesMax)
	for _, s := range treesOf(impl.NodesMax) {
		for _, u := range []string{"()", path(8), star(9), "(((((()()())))()))", path(9)} {
			known := codes[s] <= impl.CodeMax && codes[u] <= impl.CodeMax
			if less := impl.CodeLess(s, u); less != (known && codes[s] < codes[u]) {
				t.Errorf("CodeLess(%q, %q) returned %v", s, u, less)
			}
			if less := impl.CodeLess(u, s); less != (known && codes[u] < codes[s]) {
				t.Errorf("CodeLess(%q, %q) returned %v", u, s, less)
			}
		}
	}
}

// TestCodesOfTextsThatAreNoTrees gives each function texts that are no trees, beside trees where two are asked.
func TestCodesOfTextsThatAreNoTrees(t *testing.T) {
	for _, s := range notTrees() {
		if n, ok := impl.CodeOf(s); ok || n != 0 {
			t.Errorf("CodeOf(%q) returned %d, %v", s, n, ok)
		}
		for _, u := range []string{"()", "(())", star(4), path(8), path(9), s} {
			checkNotCompared(t, s, u)
			checkNotCompared(t, u, s)
		}
	}
}

// checkNotCompared checks what is made of two texts of which one is no tree.
func checkNotCompared(t *testing.T, s, u string) {
	t.Helper()
	if x, ok := impl.CodeJoin(s, u); ok || x != "" {
		t.Errorf("CodeJoin(%q, %q) returned %q, %v", s, u, x, ok)
	}
	if impl.CodeLess(s, u) {
		t.Errorf("CodeLess(%q, %q) holds", s, u)
	}
}

// TestCodeJoinReadsEachText has pairs of texts that are no trees, but make one when they are put behind each other.
func TestCodeJoinReadsEachText(t *testing.T) {
	for _, pair := range [][2]string{{"(", ")"}, {"((", "))"}, {"(()", ")"}, {"(", "())"}, {"", "()"}, {"()", ""}, {"()()", "()"}, {"(()", "())"}} {
		checkNotCompared(t, pair[0], pair[1])
	}
}
