package mend

// turnsAround tells how often the edges go around the point at/part, or that
// it lies on one of them.
func turnsAround(edges []edge, at complex128, part int) (int, bool) {
	turns := 0
	for _, e := range edges {
		seen := e.seenFrom(at, part)
		if seen.holdsOrigin() {
			return 0, true
		}
		turns += seen.crossing()
	}
	return turns, false
}

// seenFrom moves the point at/part into the origin and makes all greater by
// part, so that all numbers stay whole.
func (e edge) seenFrom(at complex128, part int) edge {
	scale := pointAt(part, 0)
	return edge{e.from*scale - at, e.to*scale - at}
}

// holdsOrigin: from a point of the edge, and only from there, its ends lie in
// opposite directions, or one of them no way off.
func (e edge) holdsOrigin() bool {
	t := turn(e.from, e.to)
	return imag(t) == 0 && real(t) <= 0
}

// crossing counts how the edge, which does not hold the origin, crosses the
// ray from there to the right: 1 upward, -1 downward. Each full turn to the
// left crosses it upward once more than downward. An end on the ray counts as
// below it, so that a ring which crosses there is counted once, and one which
// only touches is not.
func (e edge) crossing() int {
	left := imag(turn(e.from, e.to)) > 0
	up := imag(e.from) <= 0 && imag(e.to) > 0
	down := imag(e.from) > 0 && imag(e.to) <= 0
	switch {
	case up && left:
		return 1
	case down && !left:
		return -1
	}
	return 0
}
