package mend

import (
	"cmp"
	"slices"
)

// A side is a piece of the boundary, gone along so that the inside is on its
// left. The owner is the polygon there.
type side struct {
	piece
	walked bool
	owner  *polygon
}

func isRule(rule byte) bool {
	return rule == 'e' || rule == 'n' || rule == '+' || rule == '-'
}

// takesIn tells whether points which the edges go around so often are inside.
func takesIn(rule byte, turns int) bool {
	switch rule {
	case 'e':
		return turns%2 != 0
	case 'n':
		return turns != 0
	case '+':
		return turns > 0
	}
	return turns < 0
}

// boundaryOf leaves out the pieces that have the inside, or the outside, on
// both sides.
func boundaryOf(edges []edge, rule byte) boundary {
	var sides boundary
	for _, p := range piecesOf(edges) {
		leftTurns, rightTurns := p.turnsBeside(edges)
		onLeft, onRight := takesIn(rule, leftTurns), takesIn(rule, rightTurns)
		if onLeft && !onRight {
			sides = append(sides, &side{piece: p})
		}
		if onRight && !onLeft {
			sides = append(sides, &side{piece: p.reversed()})
		}
	}
	slices.SortFunc(sides, (*side).compareStarts)
	return sides
}

func (s *side) compareStarts(other *side) int {
	return s.from.compare(other.from)
}

func (s *side) compareStart(n node) int {
	return s.from.compare(n)
}

// compareTurns puts the sides that leave the node to which this one comes in
// order, from the one that turns most to the left to the one that turns most
// to the right. None of them goes straight back.
func (s *side) compareTurns(a, b *side) int {
	return cmp.Or(
		cmp.Compare(s.hand(b), s.hand(a)),
		cmp.Compare(left(a.way, b.way), 0),
	)
}

// hand is 1 if the other side goes to the left, -1 if to the right, and 0 if
// straight on.
func (s *side) hand(other *side) int {
	return cmp.Compare(left(s.way, other.way), 0)
}

// isBelow tells whether the side goes to the right, so that the inside is above
// it, and crosses the ray straight down from the node. Ends on the ray count as
// in the passing of edges.
func (s *side) isBelow(n node) bool {
	return !n.isLeftOf(s.from) && n.isLeftOf(s.to) && s.leftOf(n) > 0
}

// compareDepths puts sides that are below the node in order, from the nearest
// one down. Of two that part straight below it, the upper one comes first.
func (n node) compareDepths(a, b *side) int {
	return cmp.Or(
		cmp.Compare(a.leftOf(n)*real(b.way), b.leftOf(n)*real(a.way)),
		cmp.Compare(left(a.way, b.way), 0),
	)
}
