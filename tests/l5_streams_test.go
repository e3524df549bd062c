package tests

import (
	"math"
	"slices"
	"testing"

	"loop.example/treenumbers/impl"
)

// numberStreams returns the functions of the chapter that tell one number of a tree, by name.
func numberStreams() map[string]func(string) (int, bool) {
	return map[string]func(string) (int, bool){"StreamOrder": impl.StreamOrder, "StreamRegisters": impl.StreamRegisters}
}

// listStreams returns the functions of the chapter that tell a list, by name.
func listStreams() map[string]func(string) ([]int, bool) {
	return map[string]func(string) ([]int, bool){
		"StreamOrders": impl.StreamOrders, "StreamCounts": impl.StreamCounts,
		"StreamLengths": impl.StreamLengths, "StreamDeepest": impl.StreamDeepest,
	}
}

// forks tells whether the root of a tree has at least some stream order: two of its children have one less, or one child has this.
func forks(s string, order int) bool {
	if order == 1 {
		return true
	}
	less := 0
	for _, kid := range childrenOf(s) {
		if forks(kid, order) {
			return true
		}
		if forks(kid, order-1) {
			less++
		}
	}
	return less > 1
}

// ordersOf returns the stream orders of all nodes, in order, each one by looking for forks.
func ordersOf(s string) []int {
	orders := []int{}
	for _, part := range partsOf(s) {
		order := 1
		for forks(part, order+1) {
			order++
		}
		orders = append(orders, order)
	}
	return orders
}

// streamsOf counts the streams of each order by where they begin, which is at the nodes without a child of their order.
func streamsOf(s string) []int {
	ups, orders := upsOf(s), ordersOf(s)
	counts := make([]int, orders[0])
	for v, order := range orders {
		begins := true
		for u := range ups {
			begins = begins && !(ups[u] == v && orders[u] == order)
		}
		if begins {
			counts[order-1]++
		}
	}
	return counts
}

// lengthsOf counts the nodes of each order.
func lengthsOf(s string) []int {
	orders := ordersOf(s)
	lengths := make([]int, orders[0])
	for _, order := range orders {
		lengths[order-1]++
	}
	return lengths
}

// heldBy counts the numbers that must be held when a set of nodes is worked out: those of nodes whose node above is not.
func heldBy(ups []int, set int) int {
	held := 0
	for v, up := range ups {
		if set>>v&1 == 1 && (v == 0 || set>>up&1 == 0) {
			held++
		}
	}
	return held
}

// ready tells whether a node is not worked out, and all its children are.
func ready(ups []int, set, v int) bool {
	for u, up := range ups {
		if up == v && set>>u&1 == 0 {
			return false
		}
	}
	return set>>v&1 == 0
}

// registersOf finds the fewest numbers held at once by their definition: it works the nodes out one by one in all ways, over all sets of nodes that are worked out.
func registersOf(s string) int {
	ups := upsOf(s)
	fewest := make([]int, 1<<len(ups))
	for set := range fewest {
		if set > 0 && fewest[set] == 0 {
			continue
		}
		for v := range ups {
			next := set | 1<<v
			if !ready(ups, set, v) {
				continue
			}
			held := max(fewest[set], heldBy(ups, next))
			if fewest[next] == 0 || held < fewest[next] {
				fewest[next] = held
			}
		}
	}
	return fewest[len(fewest)-1]
}

// deepestOf follows, from the root down, the first child that no other child exceeds in its order.
func deepestOf(s string) []int {
	ups, orders := upsOf(s), ordersOf(s)
	deepest := []int{0}
	for {
		best := -1
		for u, up := range ups {
			if up == deepest[len(deepest)-1] && (best < 0 || orders[u] > orders[best]) {
				best = u
			}
		}
		if best < 0 {
			return deepest
		}
		deepest = append(deepest, best)
	}
}

// streamExample is what the functions of the chapter tell of a tree, worked out by hand.
type streamExample struct {
	tree      string
	orders    []int
	counts    []int
	lengths   []int
	registers int
	deepest   []int
}

// streamExamples has the edge cases that the issue of the chapter names.
func streamExamples() []streamExample {
	return []streamExample{
		{"()", []int{1}, []int{1}, []int{1}, 1, []int{0}},
		// Nodes with one child.
		{"(())", []int{1, 1}, []int{1}, []int{2}, 1, []int{0, 1}},
		{path(9), []int{1, 1, 1, 1, 1, 1, 1, 1, 1}, []int{1}, []int{9}, 1, []int{0, 1, 2, 3, 4, 5, 6, 7, 8}},
		{"((()()))", []int{2, 2, 1, 1}, []int{2, 1}, []int{2, 2}, 2, []int{0, 1, 2}},
		{"(((()())))", []int{2, 2, 2, 1, 1}, []int{2, 1}, []int{2, 3}, 2, []int{0, 1, 2, 3}},
		{"((())(()))", []int{2, 1, 1, 1, 1}, []int{2, 1}, []int{4, 1}, 2, []int{0, 1, 2}},
		{"((((()())(()()))))", []int{3, 3, 3, 2, 1, 1, 2, 1, 1}, []int{4, 2, 1}, []int{4, 2, 3}, 3, []int{0, 1, 2, 3, 4}},
		// Two, three and more children with the same greatest order, and two with one that is not the greatest.
		{"(()())", []int{2, 1, 1}, []int{2, 1}, []int{2, 1}, 2, []int{0, 1}},
		{"((()())(()()))", []int{3, 2, 1, 1, 2, 1, 1}, []int{4, 2, 1}, []int{4, 2, 1}, 3, []int{0, 1, 2}},
		{"(()()())", []int{2, 1, 1, 1}, []int{3, 1}, []int{3, 1}, 3, []int{0, 1}},
		{"(()(())((())))", []int{2, 1, 1, 1, 1, 1, 1}, []int{3, 1}, []int{6, 1}, 3, []int{0, 1}},
		{star(9), []int{2, 1, 1, 1, 1, 1, 1, 1, 1}, []int{8, 1}, []int{8, 1}, 8, []int{0, 1}},
		{"((()())()())", []int{2, 2, 1, 1, 1, 1}, []int{4, 1}, []int{4, 2}, 3, []int{0, 1, 2}},
		// A greatest child that is not the first one, and children that are best worked out in another order.
		{"(()(()()))", []int{2, 1, 2, 1, 1}, []int{3, 1}, []int{3, 2}, 2, []int{0, 2, 3}},
		{"(()()(()()))", []int{2, 1, 1, 2, 1, 1}, []int{4, 1}, []int{4, 2}, 3, []int{0, 3, 4}},
		{"(()()(()()()))", []int{2, 1, 1, 2, 1, 1, 1}, []int{5, 1}, []int{5, 2}, 3, []int{0, 3, 4}},
		{"((())(()()))", []int{2, 1, 1, 2, 1, 1}, []int{3, 1}, []int{4, 2}, 2, []int{0, 3, 4}},
		{"((()())(()()()))", []int{3, 2, 1, 1, 2, 1, 1, 1}, []int{5, 2, 1}, []int{5, 2, 1}, 3, []int{0, 1, 2}},
		{"(()((()())(()())))", []int{3, 1, 3, 2, 1, 1, 2, 1, 1}, []int{5, 2, 1}, []int{5, 2, 2}, 3, []int{0, 2, 3, 4}},
		// A child that has the greatest order, but not the most registers.
		{"((()()()())(()()))", []int{3, 2, 1, 1, 1, 1, 2, 1, 1}, []int{6, 2, 1}, []int{6, 2, 1}, 4, []int{0, 1, 2}},
	}
}

func TestStreamExamples(t *testing.T) {
	for _, e := range streamExamples() {
		orders, ok := impl.StreamOrders(e.tree)
		checkList(t, "StreamOrders", e.tree, orders, ok, e.orders)
		order, ok := impl.StreamOrder(e.tree)
		checkNumber(t, "StreamOrder", e.tree, order, ok, e.orders[0])
		counts, ok := impl.StreamCounts(e.tree)
		checkList(t, "StreamCounts", e.tree, counts, ok, e.counts)
		lengths, ok := impl.StreamLengths(e.tree)
		checkList(t, "StreamLengths", e.tree, lengths, ok, e.lengths)
		registers, ok := impl.StreamRegisters(e.tree)
		checkNumber(t, "StreamRegisters", e.tree, registers, ok, e.registers)
		deepest, ok := impl.StreamDeepest(e.tree)
		checkList(t, "StreamDeepest", e.tree, deepest, ok, e.deepest)
	}
}

// TestPromise35 checks the stream orders of all trees, and that they do not rise from a node to its children.
func TestPromise35(t *testing.T) {
	for _, s := range treesUpTo(impl.NodesMax) {
		orders, ok := impl.StreamOrders(s)
		checkList(t, "StreamOrders", s, orders, ok, ordersOf(s))
		order, ok := impl.StreamOrder(s)
		checkNumber(t, "StreamOrder", s, order, ok, slices.Max(orders))
		checkNumber(t, "StreamOrder", s, order, ok, orders[0])
		ups, _ := impl.TreeUp(s)
		for v := 1; v < len(orders); v++ {
			if orders[v] > orders[ups[v]] {
				t.Errorf("StreamOrders(%q) returned %v", s, orders)
			}
		}
	}
}

// TestPromise36 holds the stream order of all trees against their leaves, nodes, registers and heights.
func TestPromise36(t *testing.T) {
	for _, s := range treesUpTo(impl.NodesMax) {
		order, ok := impl.StreamOrder(s)
		leaves, _ := impl.TreeLeaves(s)
		nodes, _ := impl.TreeNodes(s)
		least, told := impl.StreamLeast(order)
		registers, _ := impl.StreamRegisters(s)
		height, _ := impl.TreeHeight(s)
		if !ok || !told || order < 1 || leaves < 1<<(order-1) || nodes < least || order > registers || order > height+1 {
			t.Errorf("StreamOrder(%q) returned %d, %v, with %d leaves, %d of %d nodes, %d registers and the height %d",
				s, order, ok, leaves, nodes, least, registers, height)
		}
	}
}

// TestPromise37 checks the numbers of streams of all trees, and that they halve at least from order to order.
func TestPromise37(t *testing.T) {
	for _, s := range treesUpTo(impl.NodesMax) {
		counts, ok := impl.StreamCounts(s)
		checkList(t, "StreamCounts", s, counts, ok, streamsOf(s))
		leaves, _ := impl.TreeLeaves(s)
		if len(counts) == 0 || counts[0] != leaves || counts[len(counts)-1] != 1 {
			t.Fatalf("StreamCounts(%q) returned %v, %v, with %d leaves", s, counts, ok, leaves)
		}
		for i := 1; i < len(counts); i++ {
			if counts[i-1] < 2*counts[i] {
				t.Errorf("StreamCounts(%q) returned %v", s, counts)
			}
		}
	}
}

// TestPromise38 checks the registers of all trees against the leaves, and against the stream order where no node has more than two children.
func TestPromise38(t *testing.T) {
	for _, s := range treesUpTo(impl.NodesMax) {
		registers, ok := impl.StreamRegisters(s)
		checkNumber(t, "StreamRegisters", s, registers, ok, registersOf(s))
		leaves, _ := impl.TreeLeaves(s)
		if registers > leaves {
			t.Errorf("StreamRegisters(%q) returned %d, with %d leaves", s, registers, leaves)
		}
		if slices.Max(degreesOf(s)) <= 2 {
			order, _ := impl.StreamOrder(s)
			checkNumber(t, "StreamRegisters", s, registers, ok, order)
		}
	}
}

// TestRegistersInAnyOrder checks that the order of the children in the text is of no account, as the best one is taken.
func TestRegistersInAnyOrder(t *testing.T) {
	for _, s := range treesUpTo(impl.NodesMax) {
		want, _ := impl.StreamRegisters(s)
		for _, change := range []func(string) (string, bool){impl.TreeTurned, impl.TreeSorted} {
			changed, _ := change(s)
			registers, ok := impl.StreamRegisters(changed)
			checkNumber(t, "StreamRegisters", changed, registers, ok, want)
		}
	}
}

// TestPromise39 checks the numbers of nodes of each order of all trees: they are all nodes, and not fewer than the streams.
func TestPromise39(t *testing.T) {
	for _, s := range treesUpTo(impl.NodesMax) {
		lengths, ok := impl.StreamLengths(s)
		checkList(t, "StreamLengths", s, lengths, ok, lengthsOf(s))
		nodes, _ := impl.TreeNodes(s)
		counts, _ := impl.StreamCounts(s)
		if sum(lengths) != nodes || len(lengths) != len(counts) {
			t.Fatalf("StreamLengths(%q) returned %v, with %d nodes and %v streams", s, lengths, nodes, counts)
		}
		for i := range lengths {
			if lengths[i] < counts[i] {
				t.Errorf("StreamLengths(%q) returned %v, with %v streams", s, lengths, counts)
			}
		}
	}
}

// TestPromise40 checks the least numbers of nodes of all orders, and that each one is 1 more than twice the one ahead of it.
func TestPromise40(t *testing.T) {
	for i, want := range []int{1, 3, 7, 15, 31, 63, 127, 255, 511, 1023} {
		least, ok := impl.StreamLeast(i + 1)
		checkAnswer(t, "StreamLeast", i+1, least, ok, want)
		if i < 9 {
			next, ok := impl.StreamLeast(i + 2)
			checkAnswer(t, "StreamLeast", i+2, next, ok, 2*least+1)
		}
	}
}

// TestStreamLeastOfAllTrees looks for the least tree of each order: NodesMax nodes have room for the orders 1 to 3.
func TestStreamLeastOfAllTrees(t *testing.T) {
	found := map[int]int{}
	for _, s := range treesUpTo(impl.NodesMax) {
		order := ordersOf(s)[0]
		if found[order] == 0 {
			found[order] = len(s) / 2
		}
	}
	if len(found) != 3 {
		t.Errorf("the least trees of each order have %v nodes", found)
	}
	for order, nodes := range found {
		least, ok := impl.StreamLeast(order)
		checkAnswer(t, "StreamLeast", order, least, ok, nodes)
	}
}

func TestStreamLeastBeyondTheOrders(t *testing.T) {
	for _, k := range append(offLimits(10), -9, -10, -11, 62, 63, 64, 65, math.MinInt32-1) {
		least, ok := impl.StreamLeast(k)
		checkAnswer(t, "StreamLeast", k, least, ok, 0)
	}
}

// TestPromise41 checks the nodes that lead down in all trees: from the root, child by child, to a leaf.
func TestPromise41(t *testing.T) {
	for _, s := range treesUpTo(impl.NodesMax) {
		deepest, ok := impl.StreamDeepest(s)
		checkList(t, "StreamDeepest", s, deepest, ok, deepestOf(s))
		ups, _ := impl.TreeUp(s)
		if len(deepest) == 0 || deepest[0] != 0 {
			t.Fatalf("StreamDeepest(%q) returned %v, %v", s, deepest, ok)
		}
		for i := 1; i < len(deepest); i++ {
			if ups[deepest[i]] != deepest[i-1] {
				t.Errorf("StreamDeepest(%q) returned %v", s, deepest)
			}
		}
		if part, _ := impl.TreePart(s, deepest[len(deepest)-1]); part != "()" {
			t.Errorf("StreamDeepest(%q) returned %v, which ends at %q", s, deepest, part)
		}
	}
}

func TestStreamsOfTextsThatAreNoTrees(t *testing.T) {
	checkNoTrees(t, numberStreams(), listStreams())
}

func TestStreamsAreNewMemory(t *testing.T) {
	checkNewLists(t, listStreams(), "(()(()()))", map[string][]int{
		"StreamOrders": {2, 1, 2, 1, 1}, "StreamCounts": {3, 1}, "StreamLengths": {3, 2}, "StreamDeepest": {0, 2, 3},
	})
}
