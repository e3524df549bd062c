package tests

import (
	"slices"
	"sync"
	"testing"

	"loop.example/treenumbers/impl"
)

// numberCounts returns the functions of the chapter that tell one number, by name.
func numberCounts() map[string]func(string) (int, bool) {
	return map[string]func(string) (int, bool){
		"CountSame": impl.CountSame, "CountOrders": impl.CountOrders, "CountRising": impl.CountRising,
		"CountNamed": impl.CountNamed, "CountPaths": impl.CountPaths, "CountSpread": impl.CountSpread,
	}
}

// listCounts returns the functions of the chapter that tell a list, by name.
func listCounts() map[string]func(string) ([]int, bool) {
	return map[string]func(string) ([]int, bool){"CountSizes": impl.CountSizes, "CountChildren": impl.CountChildren}
}

// upsOf returns, for each node of a tree in order, the number of the node whose child it is, -1 for the root.
func upsOf(s string) []int {
	depths := depthsOf(s)
	ups := []int{-1}
	for v := 1; v < len(depths); v++ {
		ups = append(ups, lastBefore(depths, v))
	}
	return ups
}

// sizesOf returns the numbers of nodes of the parts of all nodes, in order.
func sizesOf(s string) []int {
	sizes := []int{}
	for _, part := range partsOf(s) {
		sizes = append(sizes, len(part)/2)
	}
	return sizes
}

// degreesOf returns the numbers of children of all nodes, in order.
func degreesOf(s string) []int {
	degrees := []int{}
	for _, part := range partsOf(s) {
		degrees = append(degrees, len(childrenOf(part)))
	}
	return degrees
}

// sum returns the sum of some numbers.
func sum(numbers []int) int {
	total := 0
	for _, n := range numbers {
		total += n
	}
	return total
}

// timesAll returns the product of some numbers.
func timesAll(numbers []int) int {
	product := 1
	for _, n := range numbers {
		product *= n
	}
	return product
}

// factorials are those of the numbers from 0 to NodesMax.
func factorials() []int {
	return []int{1, 1, 2, 6, 24, 120, 720, 5040, 40320, 362880}
}

// automorphismsOf counts the automorphisms by their definition: it puts the nodes on others, one by one, each child on a child of the node on which the one above is put.
func automorphismsOf(s string) int {
	ups := upsOf(s)
	image := []int{0}
	var put func() int
	put = func() int {
		if len(image) == len(ups) {
			return 1
		}
		found := 0
		above := image[ups[len(image)]]
		for v, up := range ups {
			if up == above && !slices.Contains(image, v) {
				image = append(image, v)
				found += put()
				image = image[:len(image)-1]
			}
		}
		return found
	}
	return put()
}

// risingListsOf counts the rising lists by their definition: it gives the next number to each node whose node above has one, over all sets of nodes that have numbers.
func risingListsOf(s string) int {
	ups := upsOf(s)
	ways := make([]int, 1<<len(ups))
	ways[1] = 1
	for set := range ways {
		for v := 1; v < len(ups); v++ {
			if set>>v&1 == 0 && set>>ups[v]&1 == 1 {
				ways[set|1<<v] += ways[set]
			}
		}
	}
	return ways[len(ways)-1]
}

// distance counts the steps between two nodes: the greater one is never above the other one, so it is the one that goes up.
func distance(ups []int, u, v int) int {
	steps := 0
	for u != v {
		if u < v {
			u, v = v, u
		}
		u = ups[u]
		steps++
	}
	return steps
}

// alikeTo returns how many trees of a list are alike to a tree.
func alikeTo(s string, trees []string) int {
	found := 0
	for _, other := range trees {
		if matched(s, other) {
			found++
		}
	}
	return found
}

// TestCountsOfTheNodeAlone checks each function of the chapter for the node alone.
func TestCountsOfTheNodeAlone(t *testing.T) {
	want := map[string]int{"CountSame": 1, "CountOrders": 1, "CountRising": 1, "CountNamed": 1, "CountPaths": 0, "CountSpread": 0}
	for call, f := range numberCounts() {
		n, ok := f("()")
		checkNumber(t, call, "()", n, ok, want[call])
	}
	for call, f := range listCounts() {
		x, ok := f("()")
		checkList(t, call, "()", x, ok, []int{1})
	}
}

// TestPromise27 checks, for all nodes of all trees, that the part is a tree with as many nodes as CountSizes tells.
func TestPromise27(t *testing.T) {
	for _, s := range treesUpTo(impl.NodesMax) {
		sizes, ok := impl.CountSizes(s)
		checkList(t, "CountSizes", s, sizes, ok, sizesOf(s))
		for v, size := range sizes {
			part, ok := impl.TreePart(s, v)
			nodes, isTree := impl.TreeNodes(part)
			if !ok || !isTree || !impl.TreeIn(part) || nodes != size || v == 0 && part != s {
				t.Errorf("TreePart(%q, %d) returned %q, %v, and CountSizes %v", s, v, part, ok, sizes)
			}
		}
		if part, ok := impl.TreePart(s, len(sizes)); ok {
			t.Errorf("TreePart(%q, %d) returned %q, and CountSizes %v", s, len(sizes), part, sizes)
		}
	}
}

// TestPromise28 checks, for all trees, the automorphisms that are found, and that with the orders they are all ways to put children in order.
func TestPromise28(t *testing.T) {
	for _, s := range treesUpTo(impl.NodesMax) {
		same, ok := impl.CountSame(s)
		checkNumber(t, "CountSame", s, same, ok, automorphismsOf(s))
		ways := 1
		for _, k := range degreesOf(s) {
			ways *= factorials()[k]
		}
		orders, ok := impl.CountOrders(s)
		checkNumber(t, "CountSame times CountOrders", s, same*orders, ok, ways)
	}
}

func TestCountSameExamples(t *testing.T) {
	for s, want := range map[string]int{
		"(())": 1, "(()())": 2, "(()(()))": 1, "((())())": 1, "(()()())": 6, "((())(()))": 2, "((()())())": 2, "(()(()()))": 2,
		"((()())(()()))": 8, "((()(()))((())()))": 2, "((()())((())))": 2, "(()(())()(()))": 4, "((()()())(()))": 6, "((())()()(())())": 12,
		"((())(())(())())": 6, "((()(()))(())(()))": 2, "(((()))((())))": 2, path(9): 1, star(8): 5040, star(9): 40320,
	} {
		n, ok := impl.CountSame(s)
		checkNumber(t, "CountSame", s, n, ok, want)
	}
}

// TestPromise29 checks the orders of all trees: they are all alike ones among the trees with as many nodes, and as many for the turned tree.
func TestPromise29(t *testing.T) {
	for n := 1; n <= impl.NodesMax; n++ {
		trees := treesOf(n)
		plane, _ := impl.LevelsPlane(n)
		for _, s := range trees {
			orders, ok := impl.CountOrders(s)
			checkNumber(t, "CountOrders", s, orders, ok, alikeTo(s, trees))
			turned, _ := impl.TreeTurned(s)
			again, ok := impl.CountOrders(turned)
			checkNumber(t, "CountOrders", turned, again, ok, orders)
			if orders > plane {
				t.Errorf("CountOrders(%q) returned %d of %d trees", s, orders, plane)
			}
		}
	}
}

func TestCountOrdersExamples(t *testing.T) {
	for s, want := range map[string]int{
		"(())": 1, "(()())": 1, "(()(()))": 2, "((())())": 2, "((()()))": 1, "((())(()))": 1, "((())()())": 3, "((()(())))": 2,
		"((()(()))((())()))": 4, "(()(())()(()))": 6, "((())((()))())": 6, "((()(()))())": 4, path(9): 1, star(9): 1, "((())()()()()()())": 7,
	} {
		n, ok := impl.CountOrders(s)
		checkNumber(t, "CountOrders", s, n, ok, want)
	}
}

// TestPromise30 checks the rising lists of all trees, and that they and all sizes have the factorial of the number of nodes as their product.
func TestPromise30(t *testing.T) {
	for _, s := range treesUpTo(impl.NodesMax) {
		rising, ok := impl.CountRising(s)
		checkNumber(t, "CountRising", s, rising, ok, risingListsOf(s))
		sizes, _ := impl.CountSizes(s)
		checkNumber(t, "CountRising times all sizes", s, rising*timesAll(sizes), ok, factorials()[len(s)/2])
	}
}

func TestCountRisingExamples(t *testing.T) {
	for s, want := range map[string]int{
		"(())": 1, "(()())": 2, "(()(()))": 3, "((())())": 3, "((()()))": 2, "((())(()))": 6, "(()()())": 6, "((()())(()()))": 80,
		"((())(())(())())": 630, path(9): 1, star(9): 40320,
	} {
		n, ok := impl.CountRising(s)
		checkNumber(t, "CountRising", s, n, ok, want)
	}
}

// TestPromise31 checks, for all trees, that the names and the automorphisms have the factorial of the number of nodes as their product.
func TestPromise31(t *testing.T) {
	for _, s := range treesUpTo(impl.NodesMax) {
		named, ok := impl.CountNamed(s)
		same, _ := impl.CountSame(s)
		rising, _ := impl.CountRising(s)
		checkNumber(t, "CountNamed", s, named, ok, factorials()[len(s)/2]/automorphismsOf(s))
		checkNumber(t, "CountNamed times CountSame", s, named*same, ok, factorials()[len(s)/2])
		if same < 1 || named < rising/same {
			t.Errorf("CountNamed(%q) returned %d, CountRising %d, and CountSame %d", s, named, rising, same)
		}
	}
}

// TestNamedTreesTogether holds the sum over all trees in order with n nodes against the number of trees on n names with a root, n to the power of n - 1.
func TestNamedTreesTogether(t *testing.T) {
	for i, want := range []int{1, 2, 9, 64, 625, 7776, 117649, 2097152, 43046721} {
		total := 0
		for _, s := range orderedOf(i + 1) {
			named, _ := impl.CountNamed(s)
			total += named
		}
		if total != want {
			t.Errorf("there are %d trees on %d names instead of %d", total, i+1, want)
		}
	}
}

func TestCountNamedExamples(t *testing.T) {
	for s, want := range map[string]int{
		"(())": 2, "(()())": 3, "((()))": 6, "(()(()))": 24, "(()()())": 4, "((()()))": 12, "((())(()))": 60,
		"((()())(()()))": 630, path(9): 362880, star(9): 9,
	} {
		n, ok := impl.CountNamed(s)
		checkNumber(t, "CountNamed", s, n, ok, want)
	}
}

// TestPromise32 checks, for all trees, that the root has all nodes, and each other node fewer than the one above.
func TestPromise32(t *testing.T) {
	for _, s := range treesUpTo(impl.NodesMax) {
		sizes, ok := impl.CountSizes(s)
		ups, _ := impl.TreeUp(s)
		if !ok || len(sizes) != len(ups) || sizes[0] != len(s)/2 {
			t.Fatalf("CountSizes(%q) returned %v, %v", s, sizes, ok)
		}
		for v := 1; v < len(sizes); v++ {
			if sizes[v] >= sizes[ups[v]] || sizes[v] < 1 {
				t.Errorf("CountSizes(%q) returned %v", s, sizes)
			}
		}
	}
}

func TestCountSizesExamples(t *testing.T) {
	for s, want := range map[string][]int{
		"(())": {2, 1}, "(()(()))": {4, 1, 2, 1}, "((())())": {4, 2, 1, 1}, "((()((())))())": {7, 5, 1, 3, 2, 1, 1},
		path(9): {9, 8, 7, 6, 5, 4, 3, 2, 1}, star(9): {9, 1, 1, 1, 1, 1, 1, 1, 1},
	} {
		sizes, ok := impl.CountSizes(s)
		checkList(t, "CountSizes", s, sizes, ok, want)
	}
}

// TestPromise33 checks, for all trees, that the paths are all depths, and with the nodes all sizes.
func TestPromise33(t *testing.T) {
	for _, s := range treesUpTo(impl.NodesMax) {
		paths, ok := impl.CountPaths(s)
		checkNumber(t, "CountPaths", s, paths, ok, sum(depthsOf(s)))
		sizes, _ := impl.CountSizes(s)
		nodes, _ := impl.TreeNodes(s)
		checkNumber(t, "CountPaths and the nodes", s, paths+nodes, ok, sum(sizes))
	}
}

func TestCountPathsExamples(t *testing.T) {
	for s, want := range map[string]int{
		"(())": 1, "(()())": 2, "((()))": 3, "(()(()))": 4, "((())())": 4, "((()())(()()))": 10, path(9): 36, star(9): 8,
	} {
		n, ok := impl.CountPaths(s)
		checkNumber(t, "CountPaths", s, n, ok, want)
	}
}

// TestCountSpreadOfAllTrees adds up the distances of all pairs of nodes, each pair once.
func TestCountSpreadOfAllTrees(t *testing.T) {
	for _, s := range treesUpTo(impl.NodesMax) {
		ups := upsOf(s)
		want := 0
		for u := range ups {
			for v := range u {
				want += distance(ups, u, v)
			}
		}
		spread, ok := impl.CountSpread(s)
		checkNumber(t, "CountSpread", s, spread, ok, want)
	}
}

func TestCountSpreadExamples(t *testing.T) {
	for s, want := range map[string]int{
		"(())": 1, "(()())": 4, "((()))": 4, "(()()())": 9, "(((())))": 10, "(()(()))": 10, "((()()))": 9, path(9): 120, star(9): 64,
	} {
		n, ok := impl.CountSpread(s)
		checkNumber(t, "CountSpread", s, n, ok, want)
	}
}

// TestPromise34 checks, for all trees, the numbers of nodes with 0, 1, 2 children and so on.
func TestPromise34(t *testing.T) {
	for _, s := range treesUpTo(impl.NodesMax) {
		degrees := degreesOf(s)
		want := make([]int, slices.Max(degrees)+1)
		for _, k := range degrees {
			want[k]++
		}
		children, ok := impl.CountChildren(s)
		checkList(t, "CountChildren", s, children, ok, want)
		leaves, _ := impl.TreeLeaves(s)
		nodes, _ := impl.TreeNodes(s)
		steps := 0
		for k, n := range children {
			steps += k * n
		}
		if len(children) == 0 || children[0] != leaves || sum(children) != nodes || steps != nodes-1 {
			t.Errorf("CountChildren(%q) returned %v", s, children)
		}
	}
}

func TestCountChildrenExamples(t *testing.T) {
	for s, want := range map[string][]int{
		"(())": {1, 1}, "(()())": {2, 0, 1}, "(()(()))": {2, 1, 1}, "((())())": {2, 1, 1}, "((()()())((())))": {4, 2, 1, 1},
		path(9): {1, 8}, star(9): {8, 0, 0, 0, 0, 0, 0, 0, 1},
	} {
		children, ok := impl.CountChildren(s)
		checkList(t, "CountChildren", s, children, ok, want)
	}
}

func TestCountsOfTextsThatAreNoTrees(t *testing.T) {
	checkNoTrees(t, numberCounts(), listCounts())
}

// TestCountsAreTheSameEachTime asks again and again, and many at once: which goroutine is done first must not be seen.
func TestCountsAreTheSameEachTime(t *testing.T) {
	s := "((()())(((())))())"
	var asking sync.WaitGroup
	for range 16 {
		asking.Go(func() {
			for i := 0; i < 200 && !t.Failed(); i++ {
				checkAllCounts(t, s)
			}
		})
	}
	asking.Wait()
}

// checkAllCounts checks all functions of the chapter for the tree that the test above asks for.
func checkAllCounts(t *testing.T, s string) {
	t.Helper()
	numbers := map[string]int{"CountSame": 2, "CountOrders": 6, "CountRising": 560, "CountNamed": 181440, "CountPaths": 16, "CountSpread": 102}
	for call, f := range numberCounts() {
		n, ok := f(s)
		checkNumber(t, call, s, n, ok, numbers[call])
	}
	lists := map[string][]int{"CountSizes": {9, 3, 1, 1, 4, 3, 2, 1, 1}, "CountChildren": {4, 3, 1, 1}}
	for call, f := range listCounts() {
		x, ok := f(s)
		checkList(t, call, s, x, ok, lists[call])
	}
}

func TestCountsAreNewMemory(t *testing.T) {
	checkNewLists(t, listCounts(), "(()(()))", map[string][]int{"CountSizes": {4, 1, 2, 1}, "CountChildren": {2, 1, 1}})
}
