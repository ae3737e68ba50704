package mend

// turnsAround tells how often the edges go around a node, or that it lies on
// one of them.
func turnsAround(edges []edge, n node) (int, bool) {
	turns := 0
	for _, e := range edges {
		if e.holds(n) {
			return 0, true
		}
		turns += e.passing(n)
	}
	return turns, false
}

// passing counts how the edge, which does not hold the node, crosses the ray
// from there to the right: 1 upward, -1 downward. Each full turn to the left
// crosses it upward once more than downward. An end on the ray counts as below
// it, so that a ring which crosses there is counted once, and one which only
// touches is not.
func (e edge) passing(n node) int {
	fromAbove, toAbove := n.isBelow(e.from), n.isBelow(e.to)
	switch {
	case !fromAbove && toAbove && e.leftOf(n) > 0:
		return 1
	case fromAbove && !toAbove && e.leftOf(n) < 0:
		return -1
	}
	return 0
}

func (n node) isBelow(point complex128) bool {
	return imag(n.wayFrom(point)) < 0
}
