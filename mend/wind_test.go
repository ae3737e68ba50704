package mend_test

import (
	"math"
	"math/rand"
	"strings"
	"testing"

	"mend/mend"
)

const square = "POLYGON ((0 0, 4 0, 4 4, 0 4))"

type windCase struct {
	text    string
	x, y, d int
	turns   int
	on      bool
}

func checkWind(t *testing.T, cases []windCase) {
	t.Helper()
	for _, c := range cases {
		turns, on, errno, place := mend.Wind(c.text, c.x, c.y, c.d)
		if turns != c.turns || on != c.on || errno != mend.OK || place != 0 {
			t.Errorf("P6: Wind(%q, %d, %d, %d) = %d, %v, %d, %d, want %d, %v, 0, 0",
				c.text, c.x, c.y, c.d, turns, on, errno, place, c.turns, c.on)
		}
	}
}

func TestWindExamples(t *testing.T) {
	checkWind(t, []windCase{
		{square, 1, 1, 1, 1, false},
		{square, 4, 1, 2, 1, false},
		{square, 0, 5, 2, 0, true},
	})
}

func TestWindRefusesTextsLikePrint(t *testing.T) {
	texts := append(badTexts(), strings.Repeat(" ", 401))
	for _, text := range texts {
		_, want, wantPlace := mend.Print(text)
		if want == mend.OK {
			t.Errorf("P3: Print(%q) is taken", text)
		}
		for _, d := range []int{-1, 0, 1, 61} {
			turns, on, errno, place := mend.Wind(text, 0, 0, d)
			if turns != 0 || on || errno != want || place != wantPlace {
				t.Errorf("P1, P5: Wind(%q, 0, 0, %d) = %d, %v, %d, %d, want 0, false, %d, %d",
					text, d, turns, on, errno, place, want, wantPlace)
			}
		}
	}
}

func TestWindRefusesPoints(t *testing.T) {
	for _, c := range []struct {
		x, y, d int
		errno   mend.Errno
	}{
		{0, 0, 1, mend.OK},
		{0, 0, 60, mend.OK},
		{0, 0, 0, mend.ErrPoint},
		{0, 0, -1, mend.ErrPoint},
		{0, 0, 61, mend.ErrPoint},
		{0, 0, math.MinInt, mend.ErrPoint},
		{0, 0, math.MaxInt, mend.ErrPoint},
		{100000, 100000, 60, mend.OK},
		{-100000, -100000, 1, mend.OK},
		{100001, 0, 60, mend.ErrPoint},
		{-100001, 0, 60, mend.ErrPoint},
		{0, 100001, 60, mend.ErrPoint},
		{0, -100001, 60, mend.ErrPoint},
		{math.MinInt, 0, 1, mend.ErrPoint},
		{math.MaxInt, 0, 1, mend.ErrPoint},
		{0, math.MinInt, 1, mend.ErrPoint},
		{0, math.MaxInt, 1, mend.ErrPoint},
	} {
		for _, text := range []string{"POLYGON EMPTY", "POLYGON ((50 0, 50 1, 49 0))"} {
			turns, on, errno, place := mend.Wind(text, c.x, c.y, c.d)
			if turns != 0 || on || errno != c.errno || place != 0 {
				t.Errorf("P5: Wind(%q, %d, %d, %d) = %d, %v, %d, %d, want 0, false, %d, 0",
					text, c.x, c.y, c.d, turns, on, errno, place, c.errno)
			}
		}
	}
}

func TestWindWithoutEdges(t *testing.T) {
	for _, text := range []string{
		"POLYGON EMPTY", "POLYGON (())", "MULTIPOLYGON EMPTY", "MULTIPOLYGON (EMPTY, ((), ()))",
		"POLYGON ((0 0))", "POLYGON ((0 0, 0 0))", "POLYGON ((0 0, 0 0, 0 0), (0 0))",
	} {
		checkWind(t, []windCase{{text, 0, 0, 1, 0, false}, {text, 1, 1, 2, 0, false}})
	}
}

func TestWindOnEdges(t *testing.T) {
	checkWind(t, []windCase{
		{square, 0, 0, 1, 0, true},
		{square, 8, 8, 2, 0, true},
		{square, 4, 3, 1, 0, true},
		{square, 2, 4, 1, 0, true},
		{square, 5, 0, 1, 0, false},
		{square, 241, 240, 60, 0, false},
		{square, 239, 239, 60, 1, false},
		{square, 240, 239, 60, 0, true},
		{"POLYGON ((0 0, 3 1))", 3, 1, 2, 0, true},
		{"POLYGON ((0 0, 3 1))", 6, 2, 1, 0, false},
		{"POLYGON ((0 0, 3 1))", -3, -1, 1, 0, false},
		{"POLYGON ((0 0, 3 1))", 89, 30, 60, 0, false},
		{"POLYGON ((0 0, 0 0, 4 0, 4 0))", 2, 0, 1, 0, true},
		{"POLYGON ((0 0, 4 0), (4 0, 0 0))", 2, 0, 1, 0, true},
		{"MULTIPOLYGON (((0 0, 9 0, 9 9)), ((5 2, 7 2, 7 3)))", 6, 2, 1, 0, true},
	})
}

func TestWindCountsTurns(t *testing.T) {
	checkWind(t, []windCase{
		{"POLYGON ((0 0, 0 4, 4 4, 4 0))", 1, 1, 1, -1, false},
		{"POLYGON ((0 0, 4 0, 4 4, 0 4, 0 0))", 1, 1, 1, 1, false},
		{"POLYGON ((0 0, 4 0, 4 4, 0 4, 0 0, 4 0, 4 4, 0 4))", 1, 1, 1, 2, false},
		{"POLYGON ((0 0, 4 0, 4 4, 0 4), (1 1, 1 3, 3 3, 3 1))", 2, 2, 1, 0, false},
		{"POLYGON ((0 0, 4 0, 4 4, 0 4), (1 1, 3 1, 3 3, 1 3))", 2, 2, 1, 2, false},
		{"MULTIPOLYGON (((0 0, 4 0, 4 4, 0 4)), ((1 1, 3 1, 3 3, 1 3)))", 2, 2, 1, 2, false},
		{"MULTIPOLYGON (((0 0, 0 4, 4 4, 4 0)), EMPTY, ((1 1, 1 3, 3 3, 3 1)))", 2, 2, 1, -2, false},
		{"POLYGON ((0 0, 4 4, 0 4, 4 0))", 2, 1, 1, -1, false},
		{"POLYGON ((0 0, 4 4, 0 4, 4 0))", 2, 3, 1, 1, false},
		{"POLYGON ((0 0, 4 4, 0 4, 4 0))", 1, 2, 1, 0, false},
	})
}

// The point's height is that of corners to the right and to the left of it.
func TestWindBesideCorners(t *testing.T) {
	diamond := "POLYGON ((4 0, 0 4, -4 0, 0 -4))"
	peaks := "POLYGON ((-4 -4, 4 -4, 4 4, 3 0, 2 4, 2 0, 1 0, 1 4, -4 4))"
	checkWind(t, []windCase{
		{diamond, 0, 0, 1, 1, false},
		{diamond, -5, 0, 1, 0, false},
		{diamond, 5, 0, 1, 0, false},
		{diamond, -1, 4, 1, 0, false},
		{diamond, -1, -4, 1, 0, false},
		{peaks, 0, 0, 1, 1, false},
		{peaks, -5, 0, 1, 0, false},
		{peaks, -5, 4, 1, 0, false},
		{peaks, -5, -4, 1, 0, false},
		{peaks, 5, 2, 2, 1, false},
		{peaks, 3, 1, 2, 0, false},
	})
}

// The numbers are the greatest there are: nothing is lost, and a point that is
// next to an edge is not on it.
func TestWindFarAndNear(t *testing.T) {
	wide := "POLYGON ((-50 -50, 50 49, 50 50, -50 50))"
	checkWind(t, []windCase{
		{wide, 0, -29, 59, 1, false},
		{wide, 0, -30, 60, 0, true},
		{wide, 0, -31, 60, 0, false},
		{wide, -2941, -2942, 59, 0, false},
		{wide, 100000, 99999, 1, 0, false},
		{wide, 100000, 99999, 60, 0, false},
		{wide, -100000, -100000, 60, 0, false},
		{wide, 100000, -100000, 60, 0, false},
	})
}

// sums follows the document's words: it adds up the turns of one who looks
// from the point along all rings.
func sums(rings [][]dot, x, y, d int) (int, bool) {
	angle := 0.0
	for _, ring := range rings {
		for i, p := range ring {
			q := ring[(i+1)%len(ring)]
			ax, ay := p.x*d-x, p.y*d-y
			bx, by := q.x*d-x, q.y*d-y
			side, along := ax*by-ay*bx, ax*bx+ay*by
			if side == 0 && along <= 0 && p != q {
				return 0, true
			}
			angle += math.Atan2(float64(side), float64(along))
		}
	}
	return int(math.Round(angle / (2 * math.Pi))), false
}

func TestWindAgainstAngles(t *testing.T) {
	source := rand.New(rand.NewSource(1))
	seen := map[int]int{}
	for range 3000 {
		reach := 1 + source.Intn(6)
		rings := randomRings(source, reach)
		text := textOf(rings)
		for range 20 {
			d := 1 + source.Intn(60)/(1+source.Intn(30))
			x, y := source.Intn(2*reach*d+3)-reach*d-1, source.Intn(2*reach*d+3)-reach*d-1
			turns, on := sums(rings, x, y, d)
			checkWind(t, []windCase{{text, x, y, d, turns, on}})
			seen[turns]++
			if on {
				seen[99]++
			}
		}
	}
	for _, turns := range []int{-2, -1, 0, 1, 2, 99} {
		if seen[turns] < 100 {
			t.Errorf("too few points tried of the sort %d: %d", turns, seen[turns])
		}
	}
}
