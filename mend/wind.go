package mend

// turnsAround tells how often the edges go around a node, or that it lies on
// one of them.
func turnsAround(edges []edge, n node) (int, bool) {
	turns := 0
	for _, e := range edges {
		if e.holds(n) {
			return 0, true
		}
		turns += e.passing(n)
	}
	return turns, false
}

// passing counts how the edge crosses the ray that goes straight down from the
// node: 1 to the right, -1 to the left. Each full turn to the left crosses it
// to the right once more than to the left. An end on the ray counts as left of
// it, so that a ring which crosses there is counted once, and one which only
// touches is not. An edge that holds the node counts as above it.
func (e edge) passing(n node) int {
	fromRight, toRight := n.isLeftOf(node{e.from, 1}), n.isLeftOf(node{e.to, 1})
	switch {
	case !fromRight && toRight && e.leftOf(n) > 0:
		return 1
	case fromRight && !toRight && e.leftOf(n) < 0:
		return -1
	}
	return 0
}
