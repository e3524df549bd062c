package impl

import (
	"slices"
	"strings"
)

// NodesMax is the greatest number of nodes of a tree.
const NodesMax = 9

// node is a node of a tree that was read from a text. Its number is the one it
// had in this text: it stays when children are put in another order.
type node struct {
	number int
	up     *node
	kids   []*node
}

// readTree returns the root of the tree that a text is.
func readTree(s string) (*node, bool) {
	var root, open *node
	nodes, read := 0, 0
reading:
	for read < len(s) {
		switch {
		case s[read] == ')' && open != nil:
			open = open.up
		case s[read] == '(' && root == nil:
			root = &node{}
			open = root
			nodes++
		case s[read] == '(' && open != nil && nodes < NodesMax:
			open = open.add(nodes)
			nodes++
		default:
			// The byte has no place in a tree, so the rest need not be read, however long it is.
			break reading
		}
		read++
	}
	if read < len(s) || root == nil || open != nil {
		return nil, false
	}
	return root, true
}

// add gives a node one more child, the last one, and returns the child.
func (n *node) add(number int) *node {
	kid := &node{number: number, up: n}
	n.kids = append(n.kids, kid)
	return kid
}

// text returns the part of a node.
func (n *node) text() string {
	text := "("
	for _, kid := range n.kids {
		text += kid.text()
	}
	return text + ")"
}

// nodes returns a node and all nodes below it, in the order of their opening brackets.
func (n *node) nodes() []*node {
	all := []*node{n}
	for _, kid := range n.kids {
		all = append(all, kid.nodes()...)
	}
	return all
}

// height returns the greatest number of steps down from a node.
func (n *node) height() int {
	height := 0
	for _, kid := range n.kids {
		height = max(height, kid.height()+1)
	}
	return height
}

// turn puts the children of a node, and of all nodes below it, in the opposite order.
func (n *node) turn() {
	slices.Reverse(n.kids)
	for _, kid := range n.kids {
		kid.turn()
	}
}

// sort puts a node and all nodes below it in order. The children come first:
// their texts can be compared only when they are in order themselves.
func (n *node) sort() {
	for _, kid := range n.kids {
		kid.sort()
	}
	slices.SortFunc(n.kids, compareTexts)
}

// compareTexts compares the parts of two nodes as texts.
func compareTexts(a, b *node) int {
	return strings.Compare(a.text(), b.text())
}

// TreeIn reports whether a text is a tree.
func TreeIn(s string) bool {
	_, ok := readTree(s)
	return ok
}

// TreeNodes returns the number of nodes of a tree, and true.
func TreeNodes(s string) (int, bool) {
	root, ok := readTree(s)
	if !ok {
		return 0, false
	}
	return len(root.nodes()), true
}

// TreeLeaves returns the number of leaves, and true.
func TreeLeaves(s string) (int, bool) {
	root, ok := readTree(s)
	if !ok {
		return 0, false
	}
	leaves := 0
	for _, n := range root.nodes() {
		if len(n.kids) == 0 {
			leaves++
		}
	}
	return leaves, true
}

// TreeHeight returns the height, and true.
func TreeHeight(s string) (int, bool) {
	root, ok := readTree(s)
	if !ok {
		return 0, false
	}
	return root.height(), true
}

// TreeChildren returns the texts of the children of the root, in order, and true.
func TreeChildren(s string) ([]string, bool) {
	root, ok := readTree(s)
	if !ok {
		return nil, false
	}
	texts := []string{}
	for _, kid := range root.kids {
		texts = append(texts, kid.text())
	}
	return texts, true
}

// TreeOf returns the tree whose root has some trees as its children, in order, and true.
func TreeOf(kids []string) (string, bool) {
	// Each child is read by itself: texts that are no trees may still make one together.
	nodes := 1
	for _, kid := range kids {
		n, ok := TreeNodes(kid)
		nodes += n
		if !ok || nodes > NodesMax {
			return "", false
		}
	}
	return "(" + strings.Join(kids, "") + ")", true
}

// TreePart returns the part of a node, and true.
func TreePart(s string, v int) (string, bool) {
	root, ok := readTree(s)
	if !ok {
		return "", false
	}
	nodes := root.nodes()
	if v < 0 || v >= len(nodes) {
		return "", false
	}
	return nodes[v].text(), true
}

// TreeUp returns, for each node in order, the number of the node whose child it is, -1 for the root, and true.
func TreeUp(s string) ([]int, bool) {
	root, ok := readTree(s)
	if !ok {
		return nil, false
	}
	ups := []int{-1}
	for _, n := range root.nodes()[1:] {
		ups = append(ups, n.up.number)
	}
	return ups, true
}

// TreeTurned returns the tree with the children of each node in the opposite order, and true.
func TreeTurned(s string) (string, bool) {
	root, ok := readTree(s)
	if !ok {
		return "", false
	}
	root.turn()
	return root.text(), true
}

// TreeSorted returns the tree in order of a tree, and true.
func TreeSorted(s string) (string, bool) {
	root, ok := readTree(s)
	if !ok {
		return "", false
	}
	root.sort()
	return root.text(), true
}

// TreeAlike reports whether two trees are alike; it does not hold if one of both is none.
func TreeAlike(s string, t string) bool {
	first, isTree := TreeSorted(s)
	second, isTreeToo := TreeSorted(t)
	return isTree && isTreeToo && first == second
}
