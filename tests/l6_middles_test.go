package tests

import (
	"slices"
	"strings"
	"testing"

	"loop.example/treenumbers/impl"
)

// listMiddles returns the functions of the chapter that tell a list, by name; MiddleFar is asked for the last node.
func listMiddles() map[string]func(string) ([]int, bool) {
	return map[string]func(string) ([]int, bool){
		"MiddleFar":    func(s string) ([]int, bool) { return impl.MiddleFar(s, len(s)/2-1) },
		"MiddleReach":  impl.MiddleReach,
		"MiddleCentre": impl.MiddleCentre,
		"MiddleLoads":  impl.MiddleLoads,
		"MiddleOf":     impl.MiddleOf,
	}
}

// farOf returns the distances of a node to all nodes, in order.
func farOf(s string, v int) []int {
	ups := upsOf(s)
	far := []int{}
	for u := range ups {
		far = append(far, distance(ups, v, u))
	}
	return far
}

// reachesOf returns the reaches of all nodes, in order.
func reachesOf(s string) []int {
	reaches := []int{}
	for v := range upsOf(s) {
		reaches = append(reaches, slices.Max(farOf(s, v)))
	}
	return reaches
}

// loadsOf returns the loads of all nodes, in order, by taking each node out: two others are in one piece if the way between them does not lead through it.
func loadsOf(s string) []int {
	ups := upsOf(s)
	loads := make([]int, len(ups))
	for v := range ups {
		for u := range ups {
			piece := 0
			for w := range ups {
				if distance(ups, u, w) < distance(ups, u, v)+distance(ups, v, w) {
					piece++
				}
			}
			loads[v] = max(loads[v], piece)
		}
	}
	return loads
}

// neighboursOf returns how many nodes are beside each node, in order.
func neighboursOf(s string) []int {
	neighbours := degreesOf(s)
	for v := 1; v < len(neighbours); v++ {
		neighbours[v]++
	}
	return neighbours
}

// leastOf returns the places of all least numbers of a list, in order.
func leastOf(numbers []int) []int {
	least := []int{}
	for i, n := range numbers {
		if n == slices.Min(numbers) {
			least = append(least, i)
		}
	}
	return least
}

// treesAt returns the trees at all nodes, in order, by cutting each node out of the children of the tree at the node above it.
func treesAt(s string) []string {
	ups, parts := upsOf(s), partsOf(s)
	trees := []string{s}
	for v := 1; v < len(ups); v++ {
		up := ups[v]
		// The node is among the children of the node above, behind what comes ahead of them.
		child := 0
		for u := 1; u < v; u++ {
			if ups[u] == up {
				child++
			}
		}
		if up > 0 {
			child++
		}
		left := slices.Delete(childrenOf(trees[up]), child, child+1)
		trees = append(trees, "(("+strings.Join(left, "")+")"+strings.Join(childrenOf(parts[v]), "")+")")
	}
	return trees
}

// orderedText returns the tree in order of a tree, from the inside on.
func orderedText(s string) string {
	kids := childrenOf(s)
	for i := range kids {
		kids[i] = orderedText(kids[i])
	}
	slices.Sort(kids)
	return "(" + strings.Join(kids, "") + ")"
}

// freeOf returns the least tree in order of those at all nodes of the centre.
func freeOf(s string) string {
	free := []string{}
	for _, v := range leastOf(reachesOf(s)) {
		free = append(free, orderedText(treesAt(s)[v]))
	}
	return slices.Min(free)
}

// freeAlike tells whether two trees are free alike by their definition.
func freeAlike(s, u string) bool {
	return slices.ContainsFunc(treesAt(s), func(at string) bool { return matched(at, u) })
}

// middleExample is what the functions of the chapter tell of a tree, worked out by hand; the centre is where the least reach is, and the middle where the least load is.
type middleExample struct {
	tree    string
	reaches []int
	centre  []int
	loads   []int
	middle  []int
	widest  int
	free    string
}

// middleExamples has the edge cases that the issue of the chapter names.
func middleExamples() []middleExample {
	return []middleExample{
		{"()", []int{0}, []int{0}, []int{0}, []int{0}, 0, "()"},
		// A centre of one node, and of two nodes, which are the middle, too.
		{"(())", []int{1, 1}, []int{0, 1}, []int{1, 1}, []int{0, 1}, 1, "(())"},
		{"((()))", []int{2, 1, 2}, []int{1}, []int{2, 1, 2}, []int{1}, 2, "(()())"},
		{"(()())", []int{1, 2, 2}, []int{0}, []int{1, 2, 2}, []int{0}, 2, "(()())"},
		{"((()()))", []int{2, 1, 2, 2}, []int{1}, []int{3, 1, 3, 3}, []int{1}, 2, "(()()())"},
		{"(((())))", []int{3, 2, 2, 3}, []int{1, 2}, []int{3, 2, 2, 3}, []int{1, 2}, 3, "((())())"},
		{"(()(()))", []int{2, 3, 2, 3}, []int{0, 2}, []int{2, 3, 2, 3}, []int{0, 2}, 3, "((())())"},
		{"(()(()(())))", []int{3, 4, 2, 3, 3, 4}, []int{2}, []int{4, 5, 2, 5, 4, 5}, []int{2}, 4, "((())(())())"},
		// A centre of two nodes with a middle of one node, and the other way round.
		{"(()()(((()))))", []int{4, 5, 5, 3, 3, 4, 5}, []int{3, 4}, []int{4, 6, 6, 3, 4, 5, 6}, []int{3}, 5, "(((()()))(()))"},
		{"(()()((())))", []int{3, 4, 4, 2, 3, 4}, []int{3}, []int{3, 5, 5, 3, 4, 5}, []int{0, 3}, 4, "((()())(()))"},
		// Two nodes of a centre of which the first one leads to the least text, and of which the second one does.
		{"((()())())", []int{2, 2, 3, 3, 3}, []int{0, 1}, []int{3, 2, 4, 4, 4}, []int{1}, 3, "((()())())"},
		{"((())()())", []int{2, 2, 3, 3, 3}, []int{0, 1}, []int{2, 3, 4, 4, 4}, []int{0}, 3, "((()())())"},
		// A centre and a middle that are different nodes, the centre without the root.
		{"(((()))()()())", []int{3, 2, 3, 4, 4, 4, 4}, []int{1}, []int{3, 4, 5, 6, 6, 6, 6}, []int{0}, 4, "((()()())(()))"},
		{"((((())))()()()())", []int{4, 3, 3, 4, 5, 5, 5, 5, 5}, []int{1, 2}, []int{4, 5, 6, 7, 8, 8, 8, 8, 8}, []int{0}, 5, "(((()()()()))(()))"},
		// Trees with NodesMax nodes.
		{path(9), []int{8, 7, 6, 5, 4, 5, 6, 7, 8}, []int{4}, []int{8, 7, 6, 5, 4, 5, 6, 7, 8}, []int{4}, 8, "((((())))(((()))))"},
		{star(9), []int{1, 2, 2, 2, 2, 2, 2, 2, 2}, []int{0}, []int{1, 8, 8, 8, 8, 8, 8, 8, 8}, []int{0}, 2, star(9)},
	}
}

func TestMiddleExamples(t *testing.T) {
	for _, e := range middleExamples() {
		reaches, ok := impl.MiddleReach(e.tree)
		checkList(t, "MiddleReach", e.tree, reaches, ok, e.reaches)
		centre, ok := impl.MiddleCentre(e.tree)
		checkList(t, "MiddleCentre", e.tree, centre, ok, e.centre)
		loads, ok := impl.MiddleLoads(e.tree)
		checkList(t, "MiddleLoads", e.tree, loads, ok, e.loads)
		middle, ok := impl.MiddleOf(e.tree)
		checkList(t, "MiddleOf", e.tree, middle, ok, e.middle)
		widest, ok := impl.MiddleWidest(e.tree)
		checkNumber(t, "MiddleWidest", e.tree, widest, ok, e.widest)
		free, ok := impl.MiddleFree(e.tree)
		checkText(t, "MiddleFree", e.tree, free, ok, e.free)
	}
}

// TestPromise42 checks, for all trees, that the distances of all nodes are twice the spread: they have each pair of nodes twice.
func TestPromise42(t *testing.T) {
	for _, s := range treesUpTo(impl.NodesMax) {
		total := 0
		for v := range len(s) / 2 {
			far, _ := impl.MiddleFar(s, v)
			total += sum(far)
		}
		spread, ok := impl.CountSpread(s)
		checkNumber(t, "twice CountSpread", s, 2*spread, ok, total)
	}
}

// TestPromise43 checks the distances of all nodes of all trees: those of the root are the depths, and there and back is as far.
func TestPromise43(t *testing.T) {
	for _, s := range treesUpTo(impl.NodesMax) {
		root, ok := impl.MiddleFar(s, 0)
		checkList(t, "MiddleFar of the root", s, root, ok, depthsOf(s))
		last := len(s)/2 - 1
		fromLast, ok := impl.MiddleFar(s, last)
		checkList(t, "MiddleFar of the last node", s, fromLast, ok, farOf(s, last))
		for v := range last + 1 {
			far, ok := impl.MiddleFar(s, v)
			checkList(t, "MiddleFar", s, far, ok, farOf(s, v))
			if len(far) != last+1 || len(fromLast) != last+1 || far[last] != fromLast[v] || far[v] != 0 {
				t.Errorf("MiddleFar(%q, %d) returned %v, and that of the last node %v", s, v, far, fromLast)
			}
		}
	}
}

func TestMiddleFarExamples(t *testing.T) {
	for _, e := range []struct {
		tree string
		v    int
		want []int
	}{
		{"()", 0, []int{0}},
		{"(())", 0, []int{0, 1}}, {"(())", 1, []int{1, 0}},
		{"(()())", 1, []int{1, 0, 2}}, {"(()())", 2, []int{1, 2, 0}},
		{"(()(()))", 0, []int{0, 1, 1, 2}}, {"(()(()))", 1, []int{1, 0, 2, 3}}, {"(()(()))", 2, []int{1, 2, 0, 1}}, {"(()(()))", 3, []int{2, 3, 1, 0}},
		{"((()())(()()))", 2, []int{2, 1, 0, 2, 3, 4, 4}}, {"((()())(()()))", 4, []int{1, 2, 3, 3, 0, 1, 1}},
		{path(9), 4, []int{4, 3, 2, 1, 0, 1, 2, 3, 4}}, {path(9), 8, []int{8, 7, 6, 5, 4, 3, 2, 1, 0}},
		{star(9), 0, []int{0, 1, 1, 1, 1, 1, 1, 1, 1}}, {star(9), 8, []int{1, 2, 2, 2, 2, 2, 2, 2, 0}},
	} {
		far, ok := impl.MiddleFar(e.tree, e.v)
		checkList(t, "MiddleFar", e.tree, far, ok, e.want)
	}
}

// TestPromise44 checks the reaches of all trees: the root's is the height, and none is less than half of the greatest one.
func TestPromise44(t *testing.T) {
	for _, s := range treesUpTo(impl.NodesMax) {
		reaches, ok := impl.MiddleReach(s)
		checkList(t, "MiddleReach", s, reaches, ok, reachesOf(s))
		height, _ := impl.TreeHeight(s)
		widest, _ := impl.MiddleWidest(s)
		if len(reaches) == 0 || reaches[0] != height || slices.Max(reaches) != widest || 2*slices.Min(reaches) < widest {
			t.Errorf("MiddleReach(%q) returned %v, with the height %d and the greatest distance %d", s, reaches, height, widest)
		}
	}
}

// isOneOrTwoBeside tells whether a list has one node, or two, the first one above the second one.
func isOneOrTwoBeside(s string, nodes []int) bool {
	return len(nodes) == 1 || len(nodes) == 2 && upsOf(s)[nodes[1]] == nodes[0]
}

// TestPromise45 checks the centres of all trees: one node for an even greatest distance, otherwise two, with half of it, rounded up, as their reach.
func TestPromise45(t *testing.T) {
	for _, s := range treesUpTo(impl.NodesMax) {
		centre, ok := impl.MiddleCentre(s)
		checkList(t, "MiddleCentre", s, centre, ok, leastOf(reachesOf(s)))
		reaches, _ := impl.MiddleReach(s)
		widest, _ := impl.MiddleWidest(s)
		if !isOneOrTwoBeside(s, centre) || len(centre) != 1+widest%2 {
			t.Errorf("MiddleCentre(%q) returned %v, with the greatest distance %d", s, centre, widest)
		}
		for _, v := range centre {
			if reaches[v] != (widest+1)/2 {
				t.Errorf("MiddleCentre(%q) returned %v, with the reaches %v", s, centre, reaches)
			}
		}
	}
}

// TestPromise46 checks the middles of all trees: one node or two beside each other, with half of the nodes as their load just for two.
func TestPromise46(t *testing.T) {
	for _, s := range treesUpTo(impl.NodesMax) {
		middle, ok := impl.MiddleOf(s)
		checkList(t, "MiddleOf", s, middle, ok, leastOf(loadsOf(s)))
		if !isOneOrTwoBeside(s, middle) {
			t.Errorf("MiddleOf(%q) returned %v", s, middle)
		}
		loads, _ := impl.MiddleLoads(s)
		nodes, _ := impl.TreeNodes(s)
		for _, v := range middle {
			if 2*loads[v] > nodes || (2*loads[v] == nodes) != (len(middle) == 2) {
				t.Errorf("MiddleOf(%q) returned %v, with the loads %v", s, middle, loads)
			}
		}
	}
}

// TestPromise47 checks the loads of all trees: they are 1 less than the nodes just for nodes with one neighbour.
func TestPromise47(t *testing.T) {
	for _, s := range treesUpTo(impl.NodesMax) {
		loads, ok := impl.MiddleLoads(s)
		checkList(t, "MiddleLoads", s, loads, ok, loadsOf(s))
		nodes, _ := impl.TreeNodes(s)
		neighbours := neighboursOf(s)
		for v, load := range loads {
			if load < 0 || load >= nodes || nodes > 1 && (load == nodes-1) != (neighbours[v] == 1) {
				t.Errorf("MiddleLoads(%q) returned %v, with %v neighbours", s, loads, neighbours)
			}
		}
	}
}

// TestPromise48 checks the trees at all nodes of all trees: the tree itself at the root, and at each node one with its reach as the height.
func TestPromise48(t *testing.T) {
	for _, s := range treesUpTo(impl.NodesMax) {
		reaches, _ := impl.MiddleReach(s)
		for v, want := range treesAt(s) {
			at, ok := impl.MiddleAt(s, v)
			checkText(t, "MiddleAt", s, at, ok, want)
			nodes, isTree := impl.TreeNodes(at)
			height, _ := impl.TreeHeight(at)
			if !isTree || nodes != len(s)/2 || height != reaches[v] || !impl.MiddleAlike(at, s) || v == 0 && at != s {
				t.Errorf("MiddleAt(%q, %d) returned %q", s, v, at)
			}
		}
	}
}

func TestMiddleAtExamples(t *testing.T) {
	for _, e := range []struct {
		tree string
		v    int
		want string
	}{
		{"()", 0, "()"},
		{"(())", 0, "(())"}, {"(())", 1, "(())"},
		{"((()))", 1, "(()())"}, {"((()))", 2, "((()))"},
		{"(()())", 1, "((()))"}, {"(()())", 2, "((()))"},
		// What is left of the tree above comes ahead of the node's own children.
		{"(()(()))", 1, "(((())))"}, {"(()(()))", 2, "((())())"}, {"(()(()))", 3, "(((())))"},
		{"((()(()))())", 0, "((()(()))())"}, {"((()(()))())", 1, "((())()(()))"}, {"((()(()))())", 5, "(((()(()))))"},
		{"((()(()))())", 3, "(((())())())"}, {"((()(()))())", 4, "((((())())))"},
		{path(9), 8, path(9)}, {path(9), 1, "(()" + path(7) + ")"}, {star(9), 8, "((()()()()()()()))"},
	} {
		at, ok := impl.MiddleAt(e.tree, e.v)
		checkText(t, "MiddleAt", e.tree, at, ok, e.want)
	}
}

// TestPromise49 checks the greatest distances of all trees: the tree at the last node has the same one.
func TestPromise49(t *testing.T) {
	for _, s := range treesUpTo(impl.NodesMax) {
		widest, ok := impl.MiddleWidest(s)
		checkNumber(t, "MiddleWidest", s, widest, ok, slices.Max(reachesOf(s)))
		at, _ := impl.MiddleAt(s, len(s)/2-1)
		again, ok := impl.MiddleWidest(at)
		checkNumber(t, "MiddleWidest", at, again, ok, widest)
		if height, _ := impl.TreeHeight(s); widest > 2*height {
			t.Errorf("MiddleWidest(%q) returned %d, with the height %d", s, widest, height)
		}
	}
}

// TestPromise50 checks, for all trees, that MiddleFree is its own, in order, and free alike to the tree.
func TestPromise50(t *testing.T) {
	for _, s := range treesUpTo(impl.NodesMax) {
		free, ok := impl.MiddleFree(s)
		checkText(t, "MiddleFree", s, free, ok, freeOf(s))
		again, ok := impl.MiddleFree(free)
		checkText(t, "MiddleFree", free, again, ok, free)
		if !inOrder(free) || !freeAlike(s, free) || !impl.MiddleAlike(s, free) {
			t.Errorf("MiddleFree(%q) returned %q", s, free)
		}
	}
}

// TestMiddleFreeAtAllNodes checks that the trees at all nodes of a tree have the same MiddleFree.
func TestMiddleFreeAtAllNodes(t *testing.T) {
	for _, s := range treesUpTo(impl.NodesMax) {
		want, _ := impl.MiddleFree(s)
		for _, at := range treesAt(s) {
			free, ok := impl.MiddleFree(at)
			checkText(t, "MiddleFree", at, free, ok, want)
		}
	}
}

// TestMiddleFreeCounts holds the numbers of trees that are not free alike against the known ones.
func TestMiddleFreeCounts(t *testing.T) {
	for i, want := range []int{1, 1, 1, 2, 3, 6, 11, 23, 47} {
		found := map[string]bool{}
		for _, s := range treesOf(i + 1) {
			free, _ := impl.MiddleFree(s)
			found[free] = true
		}
		if len(found) != want {
			t.Errorf("there are %d trees with %d nodes that are not free alike instead of %d", len(found), i+1, want)
		}
	}
}

// TestPromise51 checks, for all pairs of trees with up to 7 nodes, whether they are free alike, both ways round.
func TestPromise51(t *testing.T) {
	trees := treesUpTo(7)
	for _, s := range trees {
		for _, u := range trees {
			if len(s) == len(u) || len(s) <= 10 && len(u) <= 10 {
				checkFreeAlike(t, s, u, freeAlike(s, u))
			}
		}
	}
}

// checkFreeAlike checks whether two trees are free alike, and what is the same for both if they are.
func checkFreeAlike(t *testing.T, s, u string, want bool) {
	t.Helper()
	if impl.MiddleAlike(s, u) != want || impl.MiddleAlike(u, s) != want {
		t.Errorf("MiddleAlike(%q, %q) returned %v, and %v for both exchanged", s, u, impl.MiddleAlike(s, u), impl.MiddleAlike(u, s))
	}
	if !want {
		return
	}
	a, _ := impl.MiddleWidest(s)
	b, _ := impl.MiddleWidest(u)
	c, _ := impl.CountSpread(s)
	d, _ := impl.CountSpread(u)
	if a != b || c != d {
		t.Errorf("%q and %q are free alike, with the greatest distances %d and %d, and the spreads %d and %d", s, u, a, b, c, d)
	}
}

// TestMiddleAlikeExamples has trees that are free alike but not alike, and others with as many nodes that are neither.
func TestMiddleAlikeExamples(t *testing.T) {
	checkFreeAlike(t, "()", "()", true)
	checkFreeAlike(t, "()", "(())", false)
	for _, e := range []struct {
		s, u string
		want bool
	}{
		{"((()))", "(()())", true}, {"(((())))", "(()(()))", true}, {"((()()))", "(()()())", true}, {"((())()())", "((()())())", true},
		{path(9), "(" + path(4) + path(4) + ")", true}, {path(9), "(()" + path(7) + ")", true}, {star(9), "(" + star(8) + ")", true},
		{"(()()())", "(((())))", false}, {"(()()())", "(()(()))", false}, {"((()()()))", "((()())())", false}, {path(9), star(9), false},
		{path(9), path(8), false}, {star(9), star(8), false},
		// The same nodes, greatest distance and spread.
		{"((())(())(()))", "((()())(()()))", false}, {"(((()))((()))(()))", "(((()()))((()))())", false},
	} {
		checkFreeAlike(t, e.s, e.u, e.want)
		if impl.TreeAlike(e.s, e.u) {
			t.Errorf("TreeAlike(%q, %q) holds", e.s, e.u)
		}
	}
}

// TestMiddlesAtNoNode has numbers that no node of a tree has.
func TestMiddlesAtNoNode(t *testing.T) {
	eachNoNode(func(s string, v int) { checkNoMiddle(t, s, v) })
}

// checkNoMiddle checks that the functions that are asked for a node fail.
func checkNoMiddle(t *testing.T, s string, v int) {
	t.Helper()
	shown := s[:min(len(s), 40)]
	if far, ok := impl.MiddleFar(s, v); ok || len(far) != 0 {
		t.Errorf("MiddleFar(%q, %d) with %d bytes returned %v, %v", shown, v, len(s), far, ok)
	}
	if at, ok := impl.MiddleAt(s, v); ok || at != "" {
		t.Errorf("MiddleAt(%q, %d) with %d bytes returned %q, %v", shown, v, len(s), at, ok)
	}
}

func TestMiddlesOfTextsThatAreNoTrees(t *testing.T) {
	checkNoTrees(t, map[string]func(string) (int, bool){"MiddleWidest": impl.MiddleWidest}, listMiddles())
	for _, s := range append(notTrees(), veryLongTexts()...) {
		shown := s[:min(len(s), 40)]
		for _, v := range append(noNodesOf("()"), 0) {
			checkNoMiddle(t, s, v)
		}
		if free, ok := impl.MiddleFree(s); ok || free != "" {
			t.Errorf("MiddleFree(%q) with %d bytes returned %q, %v", shown, len(s), free, ok)
		}
		if impl.MiddleAlike(s, "()") || impl.MiddleAlike("()", s) || impl.MiddleAlike(s, s) {
			t.Errorf("MiddleAlike holds for %q with %d bytes", shown, len(s))
		}
	}
}

func TestMiddlesAreNewMemory(t *testing.T) {
	checkNewLists(t, listMiddles(), "(((())))", map[string][]int{
		"MiddleFar": {3, 2, 1, 0}, "MiddleReach": {3, 2, 2, 3}, "MiddleCentre": {1, 2}, "MiddleLoads": {3, 2, 2, 3}, "MiddleOf": {1, 2},
	})
}
