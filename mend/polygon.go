package mend

import (
	"slices"
	"strings"
)

// A polygon is a part of the inside that hangs together. Its shell goes around
// it to the left, its holes to the right.
type polygon struct {
	shell ring
	holes []ring
}

func (p *polygon) take(rings []ring) {
	for _, r := range rings {
		if r.isShell() {
			p.shell = r
		} else {
			p.holes = append(p.holes, r)
		}
	}
}

func (p *polygon) compare(other *polygon) int {
	return p.shell.compare(other.shell)
}

// sortPolygons puts holes and polygons in the order in which they are written.
func sortPolygons(polygons []*polygon) {
	for _, p := range polygons {
		slices.SortFunc(p.holes, ring.compare)
	}
	slices.SortFunc(polygons, (*polygon).compare)
}

func (p *polygon) written() string {
	all := []string{p.shell.written()}
	for _, hole := range p.holes {
		all = append(all, hole.written())
	}
	return "(" + strings.Join(all, ", ") + ")"
}

func writePolygons(polygons []*polygon) string {
	if len(polygons) == 0 {
		return "MULTIPOLYGON EMPTY"
	}
	var all []string
	for _, p := range polygons {
		all = append(all, p.written())
	}
	return "MULTIPOLYGON (" + strings.Join(all, ", ") + ")"
}

// A ring is the sides that leave its corners, from the least corner on.
type ring []*side

// ringsOf parts a walk where it comes to a node again: what lies between is a
// ring that touches the rest there.
func ringsOf(walk []*side) []ring {
	var rings []ring
	var open []*side
	for _, s := range walk {
		open = append(open, s)
		if start := slices.IndexFunc(open, s.comesTo); start >= 0 {
			rings = append(rings, ringOf(open[start:]))
			open = open[:start]
		}
	}
	return rings
}

func (s *side) comesTo(other *side) bool {
	return s.to == other.from
}

// ringOf leaves out the sides that go straight on from the one before.
func ringOf(loop []*side) ring {
	var turns ring
	before := loop[len(loop)-1]
	for _, s := range loop {
		if !s.parallelTo(before.line) {
			turns = append(turns, s)
		}
		before = s
	}
	least := slices.Index(turns, slices.MinFunc(turns, (*side).compareStarts))
	return slices.Concat(turns[least:], turns[:least])
}

// isShell: at its least corner a ring turns the way in which it goes around.
func (r ring) isShell() bool {
	return left(r[len(r)-1].way, r[0].way) > 0
}

func (r ring) compare(other ring) int {
	return slices.CompareFunc(r, other, (*side).compareStarts)
}

func (r ring) written() string {
	var corners []node
	for _, s := range r {
		corners = append(corners, s.from)
	}
	return "(" + writeNodes(append(corners, corners[0])) + ")"
}
