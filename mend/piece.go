package mend

import (
	"cmp"
	"slices"
)

// A piece of an edge goes from one node to the next, and has no other one
// between.
type piece struct {
	line
	from, to node
}

// piecesOf gives each piece once, however many edges have it. All of them go
// from the lesser to the greater node, whichever way the edges go.
func piecesOf(edges []edge) []piece {
	nodes := nodesOf(edges)
	var pieces []piece
	for _, e := range edges {
		pieces = append(pieces, e.cut(nodes)...)
	}
	slices.SortFunc(pieces, piece.compare)
	return slices.CompactFunc(pieces, piece.liesOn)
}

// cut leans on the order of the nodes: those that the edge holds rise along
// its line.
func (e edge) cut(nodes []node) []piece {
	var pieces []piece
	rising := e.rising()
	before := -1
	for i, n := range nodes {
		if !e.holds(n) {
			continue
		}
		if before >= 0 {
			pieces = append(pieces, piece{rising, nodes[before], n})
		}
		before = i
	}
	return pieces
}

func (p piece) compare(other piece) int {
	return cmp.Or(p.from.compare(other.from), p.to.compare(other.to))
}

func (p piece) liesOn(other piece) bool {
	return p.from == other.from && p.to == other.to
}

func (p piece) reversed() piece {
	return piece{p.line.reversed(), p.to, p.from}
}

// inner is a node between the ends. It is the middle only where their parts
// are the same, but has small numbers.
func (p piece) inner() node {
	return nodeAt(p.from.at+p.to.at, p.from.part+p.to.part)
}

// turnsBeside tells how often the edges go around the points close to the left
// and close to the right of a piece that goes to the greater node. The right is
// what passing looks at from a node within the piece: the points close below
// it, or, if the piece goes straight up, those close to its right, since an end
// on the ray counts as left of it.
func (p piece) turnsBeside(edges []edge) (int, int) {
	right, along := 0, 0
	inner := p.inner()
	for _, e := range edges {
		right += e.passing(inner)
		if e.holds(inner) {
			along += p.along(e.line)
		}
	}
	return right + along, right
}
