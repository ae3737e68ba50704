package mend_test

import (
	"math/rand"
	"strconv"
	"strings"
)

type dot struct{ x, y int }

func textOf(rings [][]dot) string {
	var all []string
	for _, ring := range rings {
		var points []string
		for _, p := range ring {
			points = append(points, strconv.Itoa(p.x)+" "+strconv.Itoa(p.y))
		}
		all = append(all, "("+strings.Join(points, ",")+")")
	}
	return "POLYGON (" + strings.Join(all, ",") + ")"
}

func randomRings(source *rand.Rand, reach int) [][]dot {
	rings := make([][]dot, 1+source.Intn(4))
	for i := range rings {
		for range source.Intn(10) {
			rings[i] = append(rings[i], dot{source.Intn(2*reach+1) - reach, source.Intn(2*reach+1) - reach})
		}
	}
	return rings
}
