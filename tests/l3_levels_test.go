package tests

import (
	"fmt"
	"math"
	"slices"
	"strings"
	"testing"

	"loop.example/treenumbers/impl"
)

// orderedOf returns all trees in order with n nodes, the greatest levels first, made without the program.
func orderedOf(n int) []string {
	trees := slices.DeleteFunc(treesOf(n), func(s string) bool { return !inOrder(s) })
	slices.SortFunc(trees, func(s, u string) int { return slices.Compare(depthsOf(u), depthsOf(s)) })
	return trees
}

// knownLevels returns, for all trees with up to NodesMax nodes, the trees by their levels as they are printed.
func knownLevels() map[string]string {
	known := map[string]string{}
	for _, s := range treesUpTo(impl.NodesMax) {
		known[fmt.Sprint(depthsOf(s))] = s
	}
	return known
}

// offLimits returns numbers that are less than 1, or greater than some limit.
func offLimits(limit int) []int {
	return []int{
		0, -1, -2, -8, -12, math.MinInt, math.MinInt + 1, math.MinInt32,
		limit + 1, limit + 2, 2 * limit, 100, 1 << 32, 1<<32 + 1, math.MaxInt32, math.MaxInt - 1, math.MaxInt,
	}
}

// checkList checks a list of numbers that came with true.
func checkList(t *testing.T, call, arg string, got []int, ok bool, want []int) {
	t.Helper()
	if !ok || !slices.Equal(got, want) {
		t.Errorf("%s(%q) returned %v, %v instead of %v, true", call, arg, got, ok, want)
	}
}

// checkLevelsTree checks LevelsTree for a list, and that it is not changed; no tree is wanted if want is empty.
func checkLevelsTree(t *testing.T, d []int, want string) {
	t.Helper()
	before := slices.Clone(d)
	s, ok := impl.LevelsTree(d)
	if ok != (want != "") || s != want {
		t.Errorf("LevelsTree(%v) returned %q, %v instead of %q", before, s, ok, want)
	}
	if !slices.Equal(d, before) {
		t.Errorf("LevelsTree changed %v to %v", before, d)
	}
}

// TestLevelsOfTheNodeAlone checks each function of the chapter for the node alone.
func TestLevelsOfTheNodeAlone(t *testing.T) {
	s := "()"
	d, ok := impl.LevelsOf(s)
	checkList(t, "LevelsOf", s, d, ok, []int{0})
	checkLevelsTree(t, []int{0}, s)
	if all, ok := impl.LevelsAll(1); !ok || !slices.Equal(all, []string{s}) {
		t.Errorf("LevelsAll(1) returned %q, %v", all, ok)
	}
	n, ok := impl.LevelsCount(1)
	checkAnswer(t, "LevelsCount", 1, n, ok, 1)
	if x, ok := impl.LevelsNext(s); ok || x != "" {
		t.Errorf("LevelsNext(%q) returned %q, %v", s, x, ok)
	}
	n, ok = impl.LevelsPlace(s)
	checkNumber(t, "LevelsPlace", s, n, ok, 0)
	n, ok = impl.LevelsPlane(1)
	checkAnswer(t, "LevelsPlane", 1, n, ok, 1)
	wide, ok := impl.LevelsWide(s)
	checkList(t, "LevelsWide", s, wide, ok, []int{1})
}

// TestPromise18 checks, for all trees, that each node is below an earlier one with a depth of 1 less.
func TestPromise18(t *testing.T) {
	for _, s := range treesUpTo(impl.NodesMax) {
		ups, ok := impl.TreeUp(s)
		d, okToo := impl.LevelsOf(s)
		if !ok || !okToo || len(ups) != len(d) || ups[0] != -1 {
			t.Fatalf("TreeUp(%q) returned %v, %v, and LevelsOf %v, %v", s, ups, ok, d, okToo)
		}
		for v := 1; v < len(ups); v++ {
			if up := ups[v]; up < 0 || up >= v || d[up] != d[v]-1 {
				t.Errorf("TreeUp(%q) returned %v, and LevelsOf %v", s, ups, d)
			}
		}
	}
}

// TestPromise19 checks, for all trees, that the levels are the depths and lead back.
func TestPromise19(t *testing.T) {
	for _, s := range treesUpTo(impl.NodesMax) {
		d, ok := impl.LevelsOf(s)
		checkList(t, "LevelsOf", s, d, ok, depthsOf(s))
		checkLevelsTree(t, d, s)
	}
}

func TestLevelsOfExamples(t *testing.T) {
	for s, want := range map[string][]int{
		"(())":               {0, 1},
		"(()(()))":           {0, 1, 1, 2},
		"((())())":           {0, 1, 2, 1},
		"((()((())))())":     {0, 1, 2, 2, 3, 4, 1},
		"(((()))(()()))":     {0, 1, 2, 3, 1, 2, 2},
		path(impl.NodesMax):  {0, 1, 2, 3, 4, 5, 6, 7, 8},
		star(impl.NodesMax):  {0, 1, 1, 1, 1, 1, 1, 1, 1},
		"(((((((()))))))())": {0, 1, 2, 3, 4, 5, 6, 7, 1},
	} {
		d, ok := impl.LevelsOf(s)
		checkList(t, "LevelsOf", s, d, ok, want)
		checkLevelsTree(t, want, s)
	}
}

// TestPromise20 has all lists of up to 5 numbers from -2 to 6.
func TestPromise20(t *testing.T) {
	known := knownLevels()
	lists := [][]int{{}}
	for len(lists[0]) <= 5 {
		longer := [][]int{}
		for _, d := range lists {
			checkLevelsTree(t, d, known[fmt.Sprint(d)])
			if s, ok := impl.LevelsTree(d); ok {
				back, ok := impl.LevelsOf(s)
				checkList(t, "LevelsOf", s, back, ok, d)
			}
			for level := -2; level <= 6; level++ {
				longer = append(longer, append(slices.Clone(d), level))
			}
		}
		lists = longer
	}
}

// TestPromise20OfAllTrees has the levels of all trees with NodesMax nodes with one of the numbers changed.
func TestPromise20OfAllTrees(t *testing.T) {
	known := knownLevels()
	for _, s := range treesOf(impl.NodesMax) {
		for i := range impl.NodesMax {
			for _, level := range []int{math.MinInt, -1, 0, 1, 2, 3, 4, 5, 6, 7, 8, 9, math.MaxInt} {
				d := depthsOf(s)
				d[i] = level
				checkLevelsTree(t, d, known[fmt.Sprint(d)])
			}
		}
	}
}

// TestListsThatAreNoLevels has each way in which a list can be none of a tree.
func TestListsThatAreNoLevels(t *testing.T) {
	for _, d := range [][]int{
		nil, {}, {1}, {-1}, {2}, {1, 2}, {-1, 0}, {1, 1}, {1, 0}, {math.MaxInt}, {math.MinInt}, {math.MaxInt, math.MinInt}, {-1, 0, 1},
		{0, 2}, {0, 1, 3}, {0, 1, 1, 3}, {0, 1, 2, 1, 3}, {0, 1, 2, 3, 5}, {0, math.MaxInt}, {0, 1, math.MaxInt}, {0, 1 << 32, 1<<32 + 1},
		{0, 0}, {0, 1, 0}, {0, 1, 2, 0}, {0, 1, 0, 1}, {0, 0, 1}, {0, 1, 1, 1, 0},
		{0, -1}, {0, 1, -1}, {0, 1, 2, -1}, {0, -1, 0}, {0, math.MinInt}, {0, 1, math.MinInt}, {0, 1, 2, 3, -2},
		{0, 1, 2, 3, 4, 5, 6, 7, 8, 9}, {0, 1, 1, 1, 1, 1, 1, 1, 1, 1}, {0, 1, 2, 1, 2, 1, 2, 1, 2, 1},
		make([]int, impl.NodesMax), make([]int, impl.NodesMax+1), make([]int, 1000), slices.Repeat([]int{0, 1}, 500),
		depthsOf(path(1000)), depthsOf(star(1000)),
	} {
		checkLevelsTree(t, d, "")
	}
}

// TestLevelsTreeLooksAtLengthOnly has levels of trees in slices with room behind them.
func TestLevelsTreeLooksAtLengthOnly(t *testing.T) {
	longer := []int{0, 1, 2, 3, 4, 5, 6, 7, 8, 9, 7, 7}
	for n := 1; n <= impl.NodesMax; n++ {
		checkLevelsTree(t, longer[:n], path(n))
	}
	if !slices.Equal(longer, []int{0, 1, 2, 3, 4, 5, 6, 7, 8, 9, 7, 7}) {
		t.Errorf("LevelsTree changed what is behind its argument to %v", longer)
	}
}

// TestPromise21 checks, for all n from 1 to 8, the whole list, its length, and what LevelsNext tells of each tree of it.
func TestPromise21(t *testing.T) {
	for n := 1; n <= 8; n++ {
		all, ok := impl.LevelsAll(n)
		if !ok || !slices.Equal(all, orderedOf(n)) {
			t.Fatalf("LevelsAll(%d) returned %q, %v", n, all, ok)
		}
		count, ok := impl.LevelsCount(n)
		checkAnswer(t, "LevelsCount", n, count, ok, len(all))
		for i, s := range all {
			if sorted, _ := impl.TreeSorted(s); sorted != s {
				t.Errorf("LevelsAll(%d) has %q", n, s)
			}
			checkNext(t, s, all[i+1:])
		}
	}
}

// checkNext checks that LevelsNext leads to the first one of the trees behind a tree, or fails if there is none.
func checkNext(t *testing.T, s string, behind []string) {
	t.Helper()
	next, ok := impl.LevelsNext(s)
	if len(behind) > 0 {
		checkText(t, "LevelsNext", s, next, ok, behind[0])
	} else if ok || next != "" {
		t.Errorf("LevelsNext(%q) returned %q, %v", s, next, ok)
	}
}

func TestLevelsAllExamples(t *testing.T) {
	for n, want := range map[int][]string{
		1: {"()"},
		2: {"(())"},
		3: {"((()))", "(()())"},
		4: {"(((())))", "((()()))", "((())())", "(()()())"},
		5: {
			"((((()))))", "(((()())))", "(((())()))", "(((()))())", "((()()()))",
			"((()())())", "((())(()))", "((())()())", "(()()()())",
		},
	} {
		if all, ok := impl.LevelsAll(n); !ok || !slices.Equal(all, want) {
			t.Errorf("LevelsAll(%d) returned %q, %v", n, all, ok)
		}
	}
}

// TestLastTreeOfAList checks that each list begins with the path and ends with the star, behind which there is nothing.
func TestLastTreeOfAList(t *testing.T) {
	for n := 1; n <= impl.NodesMax; n++ {
		checkNext(t, star(n), nil)
		if n > 8 {
			continue
		}
		all, _ := impl.LevelsAll(n)
		if len(all) == 0 || all[0] != path(n) || all[len(all)-1] != star(n) {
			t.Errorf("LevelsAll(%d) returned %q", n, all)
		}
		count, _ := impl.LevelsCount(n)
		place, ok := impl.LevelsPlace(star(n))
		checkNumber(t, "LevelsPlace", star(n), place, ok, count-1)
		place, ok = impl.LevelsPlace(path(n))
		checkNumber(t, "LevelsPlace", path(n), place, ok, 0)
	}
}

// TestPromise22 checks all counts against the trees that are found, and against each other.
func TestPromise22(t *testing.T) {
	before := 0
	for n := 1; n <= 12; n++ {
		trees := treesOf(n)
		plane, ok := impl.LevelsPlane(n)
		checkAnswer(t, "LevelsPlane", n, plane, ok, len(trees))
		ordered := 0
		for _, s := range trees {
			if inOrder(s) {
				ordered++
			}
		}
		count, ok := impl.LevelsCount(n)
		checkAnswer(t, "LevelsCount", n, count, ok, ordered)
		if count > plane || count < before {
			t.Errorf("LevelsCount(%d) returned %d, behind %d, with %d trees", n, count, before, plane)
		}
		before = count
	}
}

func TestKnownCounts(t *testing.T) {
	counts := []int{1, 1, 2, 4, 9, 20, 48, 115, 286, 719, 1842, 4766}
	planes := []int{1, 1, 2, 5, 14, 42, 132, 429, 1430, 4862, 16796, 58786}
	for i := range counts {
		n, ok := impl.LevelsCount(i + 1)
		checkAnswer(t, "LevelsCount", i+1, n, ok, counts[i])
		n, ok = impl.LevelsPlane(i + 1)
		checkAnswer(t, "LevelsPlane", i+1, n, ok, planes[i])
	}
}

// TestNumbersThatAreNotTold has numbers that are too small or too great for each function that is asked for one.
func TestNumbersThatAreNotTold(t *testing.T) {
	for _, n := range offLimits(8) {
		if all, ok := impl.LevelsAll(n); ok || len(all) != 0 {
			t.Errorf("LevelsAll(%d) returned %q, %v", n, all, ok)
		}
	}
	for _, n := range offLimits(12) {
		count, ok := impl.LevelsCount(n)
		checkAnswer(t, "LevelsCount", n, count, ok, 0)
		plane, ok := impl.LevelsPlane(n)
		checkAnswer(t, "LevelsPlane", n, plane, ok, 0)
	}
}

// TestPromise23 checks all trees of up to NodesMax nodes: those in order have a next one, but for the last one, and the others have none.
func TestPromise23(t *testing.T) {
	for n := 1; n <= impl.NodesMax; n++ {
		ordered := orderedOf(n)
		for i, s := range ordered {
			checkNext(t, s, ordered[i+1:])
			next, ok := impl.LevelsNext(s)
			if !ok {
				continue
			}
			if len(next) != 2*n || !impl.TreeIn(next) || !inOrder(next) || slices.Compare(depthsOf(next), depthsOf(s)) >= 0 {
				t.Errorf("LevelsNext(%q) returned %q", s, next)
			}
		}
		for _, s := range treesOf(n) {
			if !inOrder(s) {
				checkNext(t, s, nil)
			}
		}
	}
}

func TestLevelsNextExamples(t *testing.T) {
	checkTexts(t, "LevelsNext", impl.LevelsNext, map[string]string{
		"((()))":             "(()())",
		"((())())":           "(()()())",
		"((())(()))":         "((())()())",
		"(((()))(()()))":     "(((()))(())())",
		"((()())())":         "((())(()))",
		path(9):              "(((((((()())))))))",
		"((()())()()()())":   "((())(())(())())",
		"((())()()()()()())": star(9),
		"(((((()))))()()())": "((((()()()()()))))",
	})
}

// TestPromise24 checks the places of all trees of up to NodesMax nodes, of which those not in order and those with more than 8 nodes have none.
func TestPromise24(t *testing.T) {
	for n := 1; n <= impl.NodesMax; n++ {
		all, _ := impl.LevelsAll(n)
		ordered := orderedOf(n)
		for _, s := range treesOf(n) {
			place, ok := impl.LevelsPlace(s)
			if want := slices.Index(ordered, s); n <= 8 && want >= 0 {
				checkNumber(t, "LevelsPlace", s, place, ok, want)
				if place < 0 || place >= len(all) || all[place] != s {
					t.Errorf("LevelsPlace(%q) returned %d, which is another place of %q", s, place, all)
				}
			} else if ok || place != 0 {
				t.Errorf("LevelsPlace(%q) returned %d, %v", s, place, ok)
			}
		}
	}
}

func TestLevelsPlaceExamples(t *testing.T) {
	for s, want := range map[string]int{
		"(())": 0, "((()))": 0, "(()())": 1, "(((())))": 0, "((()()))": 1, "((())())": 2, "(()()())": 3,
		"((())(()))": 6, path(8): 0, star(8): 114, "((())()()()()())": 113,
	} {
		place, ok := impl.LevelsPlace(s)
		checkNumber(t, "LevelsPlace", s, place, ok, want)
	}
	for _, s := range []string{"(()(()))", "(()()(()))", "((()(())))", path(9), star(9), "((())()()()()()())"} {
		if place, ok := impl.LevelsPlace(s); ok || place != 0 {
			t.Errorf("LevelsPlace(%q) returned %d, %v", s, place, ok)
		}
	}
}

// TestPromise25 checks that the number of all trees is the sum, over the numbers of nodes of the first child, of what is possible there.
func TestPromise25(t *testing.T) {
	for n := 2; n <= 12; n++ {
		sum := 0
		for k := 1; k < n; k++ {
			first, _ := impl.LevelsPlane(k)
			rest, _ := impl.LevelsPlane(n - k)
			sum += first * rest
		}
		plane, ok := impl.LevelsPlane(n)
		checkAnswer(t, "LevelsPlane", n, plane, ok, sum)
	}
}

// TestPromise26 checks, for all trees, the numbers of nodes of each depth.
func TestPromise26(t *testing.T) {
	for _, s := range treesUpTo(impl.NodesMax) {
		height, _ := impl.TreeHeight(s)
		want := make([]int, height+1)
		for _, depth := range depthsOf(s) {
			want[depth]++
		}
		wide, ok := impl.LevelsWide(s)
		checkList(t, "LevelsWide", s, wide, ok, want)
		sum := 0
		for _, n := range wide {
			sum += n
		}
		if nodes, _ := impl.TreeNodes(s); sum != nodes || len(wide) == 0 || wide[0] != 1 || slices.Contains(wide, 0) {
			t.Errorf("LevelsWide(%q) returned %v", s, wide)
		}
	}
}

func TestLevelsWideExamples(t *testing.T) {
	for s, want := range map[string][]int{
		"(())": {1, 1}, "(()(()))": {1, 2, 1}, "((()())(())())": {1, 3, 3}, "((())((())))": {1, 2, 2, 1},
		path(impl.NodesMax): {1, 1, 1, 1, 1, 1, 1, 1, 1}, star(impl.NodesMax): {1, 8},
	} {
		wide, ok := impl.LevelsWide(s)
		checkList(t, "LevelsWide", s, wide, ok, want)
	}
}

func TestLevelsOfTextsThatAreNoTrees(t *testing.T) {
	for _, s := range notTrees() {
		if d, ok := impl.LevelsOf(s); ok || len(d) != 0 {
			t.Errorf("LevelsOf(%q) returned %v, %v", s, d, ok)
		}
		if wide, ok := impl.LevelsWide(s); ok || len(wide) != 0 {
			t.Errorf("LevelsWide(%q) returned %v, %v", s, wide, ok)
		}
		if place, ok := impl.LevelsPlace(s); ok || place != 0 {
			t.Errorf("LevelsPlace(%q) returned %d, %v", s, place, ok)
		}
		checkNext(t, s, nil)
	}
}

// TestLevelsAreNewMemory writes into the results of a call, and behind them, and looks at those of another call.
func TestLevelsAreNewMemory(t *testing.T) {
	s := "(()(()))"
	d, _ := impl.LevelsOf(s)
	clear(d[:cap(d)])
	_ = append(d, 9)
	again, ok := impl.LevelsOf(s)
	checkList(t, "LevelsOf", s, again, ok, []int{0, 1, 1, 2})
	wide, _ := impl.LevelsWide(s)
	clear(wide[:cap(wide)])
	_ = append(wide, 9)
	again, ok = impl.LevelsWide(s)
	checkList(t, "LevelsWide", s, again, ok, []int{1, 2, 1})
	all, _ := impl.LevelsAll(3)
	clear(all[:cap(all)])
	_ = append(all, "x")
	if more, ok := impl.LevelsAll(3); !ok || strings.Join(more, " ") != "((())) (()())" {
		t.Errorf("LevelsAll(3) returned %q, %v", more, ok)
	}
}
