package mend_test

import (
	"math/big"
	"slices"
	"strings"
	"testing"
)

// What Fix answers is checked here by other means than it was made: the plane
// is cut into upright slabs and these into cells, by fractions without bounds.
// From a cell to the next one above or beside it one learns what hangs
// together.

// A stretch is a way from one place to another, of the ring that has this
// number in an answer, or of the text.
type stretch struct {
	from, to place
	ring     int
}

const ofText = -1

func (s stretch) isUpright() bool { return s.from.x.Cmp(s.to.x) == 0 }

// over is 1 if the stretch goes to the right over all x of a slab, -1 if to the
// left, else 0.
func (s stretch) over(low, high *big.Rat) int {
	switch {
	case s.from.x.Cmp(low) <= 0 && s.to.x.Cmp(high) >= 0:
		return 1
	case s.to.x.Cmp(low) <= 0 && s.from.x.Cmp(high) >= 0:
		return -1
	}
	return 0
}

func (s stretch) heightAt(x *big.Rat) *big.Rat {
	way := minus(x, s.from.x)
	way.Mul(way, minus(s.to.y, s.from.y))
	way.Quo(way, minus(s.to.x, s.from.x))
	return way.Add(way, s.from.y)
}

func minus(a, b *big.Rat) *big.Rat { return new(big.Rat).Sub(a, b) }

func half(a, b *big.Rat) *big.Rat {
	sum := new(big.Rat).Add(a, b)
	return sum.Mul(sum, big.NewRat(1, 2))
}

// leftTurn is above 0 if one turns to the left at q on the way from p to r.
func leftTurn(p, q, r place) int {
	a := minus(q.x, p.x)
	b := minus(q.y, p.y)
	return a.Mul(a, minus(r.y, q.y)).Cmp(b.Mul(b, minus(r.x, q.x)))
}

func placeOf(p dot) place {
	return place{big.NewRat(int64(p.x), 1), big.NewRat(int64(p.y), 1)}
}

func textStretches(rings [][]dot) []stretch {
	var all []stretch
	for _, e := range edgesOfRings(rings) {
		all = append(all, stretch{placeOf(e[0]), placeOf(e[1]), ofText})
	}
	return all
}

// An answered text is its polygons, each a list of rings, each of these a list
// of places.
type answered [][][]place

// readAnswer takes only what is written just so as the promises say.
func readAnswer(t *testing.T, text string) answered {
	t.Helper()
	if text == "MULTIPOLYGON EMPTY" {
		return nil
	}
	var polygons answered
	inner := strings.TrimSuffix(strings.TrimPrefix(text, "MULTIPOLYGON ((("), ")))")
	for polygon := range strings.SplitSeq(inner, ")), ((") {
		var rings [][]place
		for ring := range strings.SplitSeq(polygon, "), (") {
			rings = append(rings, readPlaces(t, ring))
		}
		polygons = append(polygons, rings)
	}
	if polygons.written() != text {
		t.Fatalf("P8: no text as it must be written: %q", text)
	}
	return polygons
}

func readPlaces(t *testing.T, list string) []place {
	t.Helper()
	var places []place
	for one := range strings.SplitSeq(list, ", ") {
		first, second, _ := strings.Cut(one, " ")
		x, okX := new(big.Rat).SetString(first)
		y, okY := new(big.Rat).SetString(second)
		if !okX || !okY {
			t.Fatalf("P8: no point: %q", one)
		}
		places = append(places, place{x, y})
	}
	return places
}

func (a answered) written() string {
	var polygons []string
	for _, polygon := range a {
		var rings []string
		for _, ring := range polygon {
			var places []string
			for _, p := range ring {
				places = append(places, p.x.RatString()+" "+p.y.RatString())
			}
			rings = append(rings, "("+strings.Join(places, ", ")+")")
		}
		polygons = append(polygons, "("+strings.Join(rings, ", ")+")")
	}
	return "MULTIPOLYGON (" + strings.Join(polygons, ", ") + ")"
}

// stretches also tells of each ring's number to which polygon it belongs.
func (a answered) stretches() ([]stretch, []int) {
	var all []stretch
	var polygonOf []int
	for i, polygon := range a {
		for _, ring := range polygon {
			for k := range len(ring) - 1 {
				all = append(all, stretch{ring[k], ring[k+1], len(polygonOf)})
			}
			polygonOf = append(polygonOf, i)
		}
	}
	return all, polygonOf
}

func samePlace(p, q place) bool { return p.compare(q) == 0 }

func compareRings(a, b []place) int { return slices.CompareFunc(a, b, place.compare) }

// checkOrder: where lists begin and end, and how they stand.
func (a answered) checkOrder(t *testing.T) {
	t.Helper()
	var shells [][]place
	for _, polygon := range a {
		shells = append(shells, polygon[0])
		if !slices.IsSortedFunc(polygon[1:], compareRings) {
			t.Errorf("P12: holes do not rise")
		}
		for _, ring := range polygon {
			last := len(ring) - 1
			if last < 3 || !samePlace(ring[0], ring[last]) || !samePlace(ring[0], slices.MinFunc(ring, place.compare)) {
				t.Errorf("P12: a ring is not written from its least corner around to it")
			}
		}
	}
	if !slices.IsSortedFunc(shells, compareRings) {
		t.Errorf("P12: polygons do not rise")
	}
}

// checkRings: which way rings go, that they turn at each corner, and have none
// but at nodes, where alone a ring could come to itself.
func (a answered) checkRings(t *testing.T, nodes []place) {
	t.Helper()
	for _, polygon := range a {
		for i, ring := range polygon {
			if area := areaOf(ring).Sign(); i == 0 && area <= 0 || i > 0 && area >= 0 {
				t.Errorf("P11: ring %d of a polygon goes the wrong way", i)
			}
			before := ring[len(ring)-2]
			for k := range len(ring) - 1 {
				if leftTurn(before, ring[k], ring[k+1]) == 0 {
					t.Errorf("P11: a ring does not turn at its corner %d", k)
				}
				if _, ok := slices.BinarySearchFunc(nodes, ring[k], place.compare); !ok {
					t.Errorf("P11: a corner is not at a node: %v", ring[k])
				}
				before = ring[k]
			}
			for _, n := range nodes {
				if visits(ring, n) > 1 {
					t.Errorf("P11: a ring comes to %v twice", n)
				}
			}
		}
	}
}

func areaOf(ring []place) *big.Rat {
	sum := new(big.Rat)
	for k := range len(ring) - 1 {
		p, q := ring[k], ring[k+1]
		sum.Add(sum, new(big.Rat).Mul(p.x, q.y))
		sum.Sub(sum, new(big.Rat).Mul(p.y, q.x))
	}
	return sum
}

// visits counts the stretches of the ring that hold the place, but not their
// last one.
func visits(ring []place, n place) int {
	count := 0
	for k := range len(ring) - 1 {
		p, q := ring[k], ring[k+1]
		between := p.compare(n) == 0 || p.compare(n)*n.compare(q) > 0
		if between && leftTurn(p, n, q) == 0 {
			count++
		}
	}
	return count
}

// A cell lies between two stretches of a slab, and has none in it.
type cell struct {
	lowLeft, highLeft, lowRight, highRight *big.Rat // its heights at the slab's borders
	inside                                 bool     // by the text and the rule
	polygon                                int      // of the answer, or -1
	group                                  *cell    // one of those it hangs together with, or itself
}

// head is the same for all cells that hang together.
func (c *cell) head() *cell {
	for c.group != c {
		c = c.group
	}
	return c
}

func (c *cell) join(other *cell) {
	if c.inside && other.inside {
		c.head().group = other.head()
	}
}

// touches tells whether more than a point of the border between two slabs
// belongs to both cells.
func (c *cell) touches(right *cell) bool {
	low, high := c.lowRight, c.highRight
	if low.Cmp(right.lowLeft) < 0 {
		low = right.lowLeft
	}
	if high.Cmp(right.highLeft) > 0 {
		high = right.highLeft
	}
	return low.Cmp(high) < 0
}

func isInside(rule byte, turns int) bool {
	return map[byte]bool{'e': turns%2 != 0, 'n': turns != 0, '+': turns > 0, '-': turns < 0}[rule]
}

// A slab holds the stretches that go over it, from the lowest to the highest.
type slab struct {
	low, high, middle *big.Rat
	stretches         []stretch
	heights           []*big.Rat // of the stretches, in the middle
}

func slabOf(all []stretch, low, high *big.Rat) slab {
	s := slab{low: low, high: high, middle: half(low, high)}
	type raised struct {
		stretch
		height *big.Rat
	}
	var found []raised
	for _, one := range all {
		if one.over(low, high) != 0 {
			found = append(found, raised{one, one.heightAt(s.middle)})
		}
	}
	slices.SortStableFunc(found, func(a, b raised) int { return a.height.Cmp(b.height) })
	for _, one := range found {
		s.stretches = append(s.stretches, one.stretch)
		s.heights = append(s.heights, one.height)
	}
	return s
}

// cells goes up through the slab, and counts how often the text's edges and
// each of the answer's rings go around what comes next.
func (s slab) cells(t *testing.T, rule byte, polygonOf []int) []*cell {
	t.Helper()
	var cells []*cell
	turns, ofEdges, ofRings := 0, 0, 0
	around := make([]int, len(polygonOf))
	for i, one := range s.stretches {
		if one.ring == ofText {
			turns += one.over(s.low, s.high)
			ofEdges++
		} else {
			around[one.ring] += one.over(s.low, s.high)
			ofRings++
		}
		last := i+1 == len(s.stretches)
		if !last && s.heights[i].Cmp(s.heights[i+1]) == 0 {
			continue
		}
		if ofRings > 1 || ofRings > ofEdges {
			t.Errorf("P11: %d rings lie on each other, on %d edges", ofRings, ofEdges)
		}
		ofEdges, ofRings = 0, 0
		if last {
			break
		}
		next := s.stretches[i+1]
		c := &cell{
			lowLeft: one.heightAt(s.low), highLeft: next.heightAt(s.low),
			lowRight: one.heightAt(s.high), highRight: next.heightAt(s.high),
			inside: isInside(rule, turns), polygon: polygonAround(t, around, polygonOf),
		}
		c.group = c
		cells = append(cells, c)
	}
	return cells
}

// polygonAround tells which polygon a point is in: its rings, and no others,
// go around the point once in all.
func polygonAround(t *testing.T, around, polygonOf []int) int {
	t.Helper()
	sums := map[int]int{}
	odd := 0
	for ring, turns := range around {
		sums[polygonOf[ring]] += turns
		odd += turns
	}
	found := -1
	for polygon, sum := range sums {
		if sum != 0 && sum != 1 || sum == 1 && found >= 0 {
			t.Errorf("P11: the polygons' rings go around a point %v times", sums)
		}
		if sum == 1 {
			found = polygon
		}
	}
	if odd%2 != 0 != (found >= 0) {
		t.Errorf("P10: rings go around a point %d times, polygon %d", odd, found)
	}
	return found
}

// checkRegion: the answer's polygons are the parts of the region's inside.
func (a answered) checkRegion(t *testing.T, rings [][]dot, rule byte, nodes []place) {
	t.Helper()
	stretches, polygonOf := a.stretches()
	all := append(textStretches(rings), stretches...)
	var borders []*big.Rat
	for _, n := range nodes {
		borders = append(borders, n.x)
	}
	borders = slices.CompactFunc(borders, func(a, b *big.Rat) bool { return a.Cmp(b) == 0 })
	var cells, before []*cell
	for i := range max(len(borders)-1, 0) {
		now := slabOf(all, borders[i], borders[i+1]).cells(t, rule, polygonOf)
		joinCells(before, now)
		cells = append(cells, now...)
		before = now
	}
	checkCells(t, cells, len(a))
	checkUpright(t, stretches)
}

// joinCells: two cells one above the other have only an edge between them, if
// both are inside, no boundary.
func joinCells(before, now []*cell) {
	for i, c := range now {
		if i > 0 {
			c.join(now[i-1])
		}
		for _, old := range before {
			if old.touches(c) {
				old.join(c)
			}
		}
	}
}

func checkCells(t *testing.T, cells []*cell, polygons int) {
	t.Helper()
	polygonOf := map[*cell]int{}
	headOf := map[int]*cell{}
	for _, c := range cells {
		if c.inside != (c.polygon >= 0) {
			t.Errorf("P10: inside the region: %v, in the answer's polygon %d", c.inside, c.polygon)
			return
		}
		if !c.inside {
			continue
		}
		if polygon, ok := polygonOf[c.head()]; ok && polygon != c.polygon {
			t.Errorf("P11: what hangs together is in polygons %d and %d", polygon, c.polygon)
		}
		if head, ok := headOf[c.polygon]; ok && head != c.head() {
			t.Errorf("P11: polygon %d does not hang together", c.polygon)
		}
		polygonOf[c.head()], headOf[c.polygon] = c.polygon, c.head()
	}
	if len(headOf) != polygons {
		t.Errorf("P11: %d polygons for %d parts", polygons, len(headOf))
	}
}

// checkUpright: slabs do not show whether upright stretches lie on each other.
func checkUpright(t *testing.T, stretches []stretch) {
	t.Helper()
	for i, one := range stretches {
		for _, other := range stretches[:i] {
			if one.isUpright() && other.isUpright() && one.from.x.Cmp(other.from.x) == 0 && overlap(one, other) {
				t.Errorf("P11: upright rings lie on each other")
			}
		}
	}
}

func overlap(a, b stretch) bool {
	low := func(s stretch) *big.Rat { return slices.MinFunc([]*big.Rat{s.from.y, s.to.y}, (*big.Rat).Cmp) }
	high := func(s stretch) *big.Rat { return slices.MaxFunc([]*big.Rat{s.from.y, s.to.y}, (*big.Rat).Cmp) }
	return low(a).Cmp(high(b)) < 0 && low(b).Cmp(high(a)) < 0
}
