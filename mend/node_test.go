package mend_test

import (
	"cmp"
	"math/big"
	"math/rand"
	"slices"
	"strings"
	"testing"

	"mend/mend"
)

type nodesCase struct{ text, want string }

func checkNodes(t *testing.T, cases []nodesCase) {
	t.Helper()
	for _, c := range cases {
		got, errno, place := mend.Nodes(c.text)
		if got != c.want || errno != mend.OK || place != 0 {
			t.Errorf("P7: Nodes(%q) = %q, %d, %d, want %q, 0, 0", c.text, got, errno, place, c.want)
		}
	}
}

func TestNodesExample(t *testing.T) {
	checkNodes(t, []nodesCase{
		{"POLYGON ((0 0, 3 3, 0 3, 2 0))", "0 0, 0 3, 6/5 6/5, 2 0, 3 3"},
	})
}

func TestNodesRefusesTextsLikePrint(t *testing.T) {
	texts := append(badTexts(), strings.Repeat(" ", 401), strings.Repeat("POLYGON ((99 99))", 99))
	for _, text := range texts {
		_, want, wantPlace := mend.Print(text)
		got, errno, place := mend.Nodes(text)
		if want == mend.OK || got != "" || errno != want || place != wantPlace {
			t.Errorf("P1, P7: Nodes(%q) = %q, %d, %d, want nothing, %d, %d",
				text, got, errno, place, want, wantPlace)
		}
	}
}

// A way of no length is no edge, and so begins nowhere.
func TestNodesWithoutEdges(t *testing.T) {
	checkNodes(t, []nodesCase{
		{"POLYGON EMPTY", ""},
		{"MULTIPOLYGON EMPTY", ""},
		{"MULTIPOLYGON (EMPTY, ((), ()))", ""},
		{"POLYGON ((7 7))", ""},
		{"POLYGON ((7 7, 7 7), (-1 2, -1 2, -1 2))", ""},
		{"POLYGON ((7 7), (0 0, 1 1, 1 1))", "0 0, 1 1"},
		{"POLYGON ((0 0, 2 2), (1 1))", "0 0, 2 2"},
	})
}

func TestNodesWhereEdgesEnd(t *testing.T) {
	checkNodes(t, []nodesCase{
		{"POLYGON ((4 0, 4 4, 0 4, 0 0))", "0 0, 0 4, 4 0, 4 4"},
		{"POLYGON ((4 0, 4 4, 0 4, 0 0, 4 0))", "0 0, 0 4, 4 0, 4 4"},
		{"POLYGON ((-04 -0, 00 -9))", "-4 0, 0 -9"},
		{"POLYGON ((0 0, 1 0, 2 0, 2 1))", "0 0, 1 0, 2 0, 2 1"},
		{"MULTIPOLYGON (((0 0, 1 0, 0 1)), ((0 0, -1 0, 0 -1)))", "-1 0, 0 -1, 0 0, 0 1, 1 0"},
	})
}

// Nodes stand by their values, not by how they are written.
func TestNodesInOrder(t *testing.T) {
	checkNodes(t, []nodesCase{
		{"POLYGON ((10 2, 9 10, -9 1, -10 -1))", "-10 -1, -9 1, 9 10, 10 2"},
		{"POLYGON ((1 10, 1 9, 1 -10, 1 -9))", "1 -10, 1 -9, 1 9, 1 10"},
		{"POLYGON ((-1 -1, -2 -2, -2 -1, -1 -2))", "-2 -2, -2 -1, -3/2 -3/2, -1 -2, -1 -1"},
		{"POLYGON ((0 0, 1 1), (0 1, 1 0), (-1 -1, 1 2))", "-1 -1, 0 0, 0 1, 1/5 4/5, 1/2 1/2, 1 0, 1 1, 1 2"},
		{"POLYGON ((-3 0, 0 1), (-3 1, 0 0), (-3 3, 0 2), (-3 2, 0 3))",
			"-3 0, -3 1, -3 2, -3 3, -3/2 1/2, -3/2 5/2, 0 0, 0 1, 0 2, 0 3"},
	})
}

func TestNodesOnceEach(t *testing.T) {
	checkNodes(t, []nodesCase{
		{"POLYGON ((0 0, 4 4), (0 4, 4 0), (0 2, 4 2), (2 0, 2 4))", "0 0, 0 2, 0 4, 2 0, 2 2, 2 4, 4 0, 4 2, 4 4"},
		{"POLYGON ((0 0, 3 3), (0 3, 3 0), (0 1, 3 2))", "0 0, 0 1, 0 3, 3/2 3/2, 3 0, 3 2, 3 3"},
		{"POLYGON ((0 0, 1 1), (0 1, 1 0), (0 0, 2 2), (1 0, 0 1))", "0 0, 0 1, 1/2 1/2, 1 0, 1 1, 2 2"},
	})
}

// Each of a node's numbers has its own divisor, and a whole one none.
func TestNodesWithoutCommonDivisor(t *testing.T) {
	checkNodes(t, []nodesCase{
		{"POLYGON ((0 0, 6 0), (1 -1, 2 2), (1 1, 2 -2))", "0 0, 1 -1, 1 1, 4/3 0, 2 -2, 2 2, 6 0"},
		{"POLYGON ((-50 -49, 50 50), (-50 48, 50 -49))", "-50 -49, -50 48, -25/49 -1/196, 50 -49, 50 50"},
		{"POLYGON ((-1 0, 0 2), (-1 1, 0 0))", "-1 0, -1 1, -2/3 2/3, 0 0, 0 2"},
		{"POLYGON ((-50 -50, 50 49), (-49 50, 50 -50))",
			"-50 -50, -49 50, 9950/19801 -50/19801, 50 -50, 50 49"},
		{"POLYGON ((-50 -50, 50 49), (-50 49, 49 -50))",
			"-50 -50, -50 49, -50/199 -149/199, 49 -50, 50 49"},
	})
}

// Where only the lines meet, or an edge ends just short of another, is no node.
func TestNodesWhereEdgesTouchOrMiss(t *testing.T) {
	checkNodes(t, []nodesCase{
		{"POLYGON ((0 0, 4 0), (2 0, 2 3))", "0 0, 2 0, 2 3, 4 0"},
		{"POLYGON ((0 0, 10 0), (5 1, 5 9))", "0 0, 5 1, 5 9, 10 0"},
		{"POLYGON ((0 0, 10 7), (5 4, 5 9))", "0 0, 5 4, 5 9, 10 7"},
		{"POLYGON ((0 0, 10 7), (5 3, 5 9))", "0 0, 5 3, 5 7/2, 5 9, 10 7"},
		{"POLYGON ((0 0, 5 3), (10 6, 11 0))", "0 0, 5 3, 10 6, 11 0"},
	})
}

func TestNodesOfParallelEdges(t *testing.T) {
	checkNodes(t, []nodesCase{
		{"POLYGON ((0 0, 4 0), (0 1, 4 1))", "0 0, 0 1, 4 0, 4 1"},
		{"POLYGON ((0 0, 4 0), (1 0, 3 0))", "0 0, 1 0, 3 0, 4 0"},
		{"POLYGON ((0 0, 4 0), (2 0, 6 0))", "0 0, 2 0, 4 0, 6 0"},
		{"POLYGON ((0 0, 4 2), (2 1, 6 3), (8 4, 10 5))", "0 0, 2 1, 4 2, 6 3, 8 4, 10 5"},
	})
}

type place struct{ x, y *big.Rat }

func (p place) compare(other place) int {
	return cmp.Or(p.x.Cmp(other.x), p.y.Cmp(other.y))
}

// meet solves p + along*(q-p) = r + beside*(s-r), by fractions without bounds.
func meet(p, q, r, s dot) (place, bool) {
	cross := func(ax, ay, bx, by int) int64 { return int64(ax*by - ay*bx) }
	under := cross(q.x-p.x, q.y-p.y, s.x-r.x, s.y-r.y)
	if under == 0 {
		return place{}, false
	}
	along := big.NewRat(cross(r.x-p.x, r.y-p.y, s.x-r.x, s.y-r.y), under)
	beside := big.NewRat(cross(r.x-p.x, r.y-p.y, q.x-p.x, q.y-p.y), under)
	one := big.NewRat(1, 1)
	if along.Sign() < 0 || along.Cmp(one) > 0 || beside.Sign() < 0 || beside.Cmp(one) > 0 {
		return place{}, false
	}
	at := func(from, to int) *big.Rat {
		way := new(big.Rat).Mul(along, big.NewRat(int64(to-from), 1))
		return way.Add(way, big.NewRat(int64(from), 1))
	}
	return place{at(p.x, q.x), at(p.y, q.y)}, true
}

func edgesOfRings(rings [][]dot) [][2]dot {
	var edges [][2]dot
	for _, ring := range rings {
		for i, p := range ring {
			if q := ring[(i+1)%len(ring)]; p != q {
				edges = append(edges, [2]dot{p, q})
			}
		}
	}
	return edges
}

func nodePlaces(rings [][]dot) []place {
	var places []place
	edges := edgesOfRings(rings)
	for _, e := range edges {
		for _, p := range e {
			places = append(places, place{big.NewRat(int64(p.x), 1), big.NewRat(int64(p.y), 1)})
		}
		for _, other := range edges {
			if p, ok := meet(e[0], e[1], other[0], other[1]); ok {
				places = append(places, p)
			}
		}
	}
	slices.SortFunc(places, place.compare)
	return slices.CompactFunc(places, samePlace)
}

func meets(rings [][]dot) string {
	var written []string
	for _, p := range nodePlaces(rings) {
		written = append(written, p.x.RatString()+" "+p.y.RatString())
	}
	return strings.Join(written, ", ")
}

func TestNodesAgainstFractions(t *testing.T) {
	source := rand.New(rand.NewSource(2))
	for _, reach := range []int{1, 2, 3, 5, 10, 50} {
		for range 300 {
			rings := randomRings(source, reach)
			checkNodes(t, []nodesCase{{textOf(rings), meets(rings)}})
		}
	}
}

// The most edges that a text has room for.
func TestNodesOfManyEdges(t *testing.T) {
	source := rand.New(rand.NewSource(3))
	for range 10 {
		ring := make([]dot, 96)
		for i := range ring {
			ring[i] = dot{source.Intn(10), source.Intn(10)}
		}
		rings := [][]dot{ring}
		checkNodes(t, []nodesCase{{textOf(rings), meets(rings)}})
	}
}
