package mend

import "slices"

// A boundary is all sides of a region, in the order of the nodes that they
// leave.
type boundary []*side

// polygons gives the parts of the inside that hang together, in order. A walk
// is begun at the least of its nodes, since the sides that leave lesser ones
// have been walked along.
func (b boundary) polygons() []*polygon {
	var polygons []*polygon
	for _, first := range b {
		if first.walked {
			continue
		}
		walk := b.walk(first)
		rings := ringsOf(walk)
		owner := &polygon{}
		if slices.ContainsFunc(rings, ring.isShell) {
			polygons = append(polygons, owner)
		} else {
			owner = b.below(first.from).owner
		}
		owner.take(rings)
		for _, s := range walk {
			s.owner = owner
		}
	}
	sortPolygons(polygons)
	return polygons
}

// walk goes along the boundary of one polygon, until it is back at its first
// side.
func (b boundary) walk(first *side) []*side {
	var walk []*side
	for s := first; !s.walked; s = b.next(s) {
		s.walked = true
		walk = append(walk, s)
	}
	return walk
}

// next is the side that turns most to the left: between it and the one that
// comes lies nothing but the inside.
func (b boundary) next(come *side) *side {
	return slices.MinFunc(b.leaving(come.to), come.compareTurns)
}

func (b boundary) leaving(n node) []*side {
	first, _ := slices.BinarySearchFunc(b, n, (*side).compareStart)
	last := first
	for last < len(b) && b[last].from == n {
		last++
	}
	return b[first:last]
}

// below is the side that is seen straight down from the least node of a walk
// around holes. The walk has nothing below that node, so between the two is the
// polygon that the holes are in. The side seen reaches as far to the left, so
// its own walk has a lesser node, and its owner is known.
func (b boundary) below(n node) *side {
	var seen []*side
	for _, s := range b {
		if s.isBelow(n) {
			seen = append(seen, s)
		}
	}
	return slices.MinFunc(seen, n.compareDepths)
}
