package mend_test

import (
	"math/rand"
	"strconv"
	"strings"
)

type dot struct{ x, y int }

func textOf(rings [][]dot) string {
	var all []string
	for _, ring := range rings {
		var points []string
		for _, p := range ring {
			points = append(points, strconv.Itoa(p.x)+" "+strconv.Itoa(p.y))
		}
		all = append(all, "("+strings.Join(points, ",")+")")
	}
	return "POLYGON (" + strings.Join(all, ",") + ")"
}

func randomDot(source *rand.Rand, reach int) dot {
	return dot{source.Intn(2*reach+1) - reach, source.Intn(2*reach+1) - reach}
}

func randomRings(source *rand.Rand, reach int) [][]dot {
	rings := make([][]dot, 1+source.Intn(4))
	for i := range rings {
		for range source.Intn(10) {
			rings[i] = append(rings[i], randomDot(source, reach))
		}
	}
	return rings
}

// framedRings are many small ones, which touch each other and their frame
// here and there, and make holes and what lies in holes.
func framedRings(source *rand.Rand, reach int) [][]dot {
	rings := [][]dot{{{-reach, -reach}, {reach, -reach}, {reach, reach}, {-reach, reach}}}
	for range 2 + source.Intn(9) {
		middle, size := randomDot(source, reach), 1+source.Intn(1+reach/2)
		var ring []dot
		for range 3 + source.Intn(2) {
			step := randomDot(source, size)
			ring = append(ring, dot{
				min(max(middle.x+step.x, -reach), reach),
				min(max(middle.y+step.y, -reach), reach),
			})
		}
		rings = append(rings, ring)
	}
	return rings
}
