package mend

import "cmp"

// Points and ways of the plane are complex numbers with whole parts. Those
// parts stay below 2^22, even on the way from a point to the farthest node, made
// greater by that node's part, and the parts of a product of two below 2^45:
// floats hold all of them exactly.

func pointAt(x, y int) complex128 {
	return complex(float64(x), float64(y))
}

func mirror(way complex128) complex128 {
	return complex(real(way), -imag(way))
}

// turn compares two ways: its real part is above 0 if they go together and
// below 0 if against each other; its imaginary part is above 0 if the second
// is to the left of the first and below 0 if to the right.
func turn(first, second complex128) complex128 {
	return mirror(first) * second
}

// left is how far the second way goes to the left of the first.
func left(first, second complex128) float64 {
	return imag(turn(first, second))
}

// A line goes on without end in both directions of its way. Its points are
// those which lie, seen along the way from the origin, as far to the left as
// shift says.
type line struct {
	way   complex128
	shift float64
}

func lineThrough(from, to complex128) line {
	way := to - from
	return line{way, left(way, from)}
}

// leftOf is above 0 if the node is to the left of the line, 0 if it is on it
// and below 0 if it is to the right.
func (l line) leftOf(n node) float64 {
	return left(l.way, n.at) - l.shift*float64(n.part)
}

func (l line) parallelTo(other line) bool {
	return left(l.way, other.way) == 0
}

// along is 1 if a parallel line goes the same way, -1 if it comes back.
func (l line) along(other line) int {
	return cmp.Compare(real(turn(l.way, other.way)), 0)
}

func (l line) reversed() line {
	return line{-l.way, -l.shift}
}

// rising is the line, gone along so that nodes on it rise.
func (l line) rising() line {
	if real(l.way) < 0 || real(l.way) == 0 && imag(l.way) < 0 {
		return l.reversed()
	}
	return l
}

// crossing is the one node of two lines that are not parallel.
func (l line) crossing(other line) node {
	at := other.way*complex(l.shift, 0) - l.way*complex(other.shift, 0)
	return nodeAt(at, int(left(l.way, other.way)))
}

// An edge is the way from one point to another, on its line.
type edge struct {
	line
	from, to complex128
}

// edgesOf closes each ring, and leaves out the ways of no length: they have no
// line.
func edgesOf(rings [][]complex128) []edge {
	var edges []edge
	for _, ring := range rings {
		for i, from := range ring {
			to := ring[(i+1)%len(ring)]
			if from != to {
				edges = append(edges, edge{lineThrough(from, to), from, to})
			}
		}
	}
	return edges
}

// holds: from a point of the edge, and from no other one of its line, the ends
// lie in opposite directions, or one of them no way off.
func (e edge) holds(n node) bool {
	return e.leftOf(n) == 0 && real(turn(n.wayFrom(e.from), n.wayFrom(e.to))) <= 0
}

// meeting is the node that the edge shares with one that is not parallel to
// it, if there is one.
func (e edge) meeting(other edge) (node, bool) {
	if e.parallelTo(other.line) {
		return node{}, false
	}
	n := e.crossing(other.line)
	return n, e.holds(n) && other.holds(n)
}
