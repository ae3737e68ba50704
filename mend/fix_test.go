package mend_test

import (
	"math/rand"
	"strings"
	"testing"

	"mend/mend"
)

const rules = "en+-"

const nothing = "MULTIPOLYGON EMPTY"

// A fixCase has the same answer by each of its rules.
type fixCase struct{ text, rules, want string }

func checkFix(t *testing.T, promise string, cases []fixCase) {
	t.Helper()
	for _, c := range cases {
		for _, rule := range []byte(c.rules) {
			got, errno, place := mend.Fix(c.text, rule)
			if got != c.want || errno != mend.OK || place != 0 {
				t.Errorf("%s: Fix(%q, %q) = %q, %d, %d, want %q, 0, 0",
					promise, c.text, rule, got, errno, place, c.want)
			}
		}
	}
}

func TestFixExamples(t *testing.T) {
	lower, upper := "((0 0, 4 0, 2 2, 0 0))", "((0 4, 2 2, 4 4, 0 4))"
	crossed := "POLYGON ((0 0, 4 4, 0 4, 4 0))"
	checkFix(t, "P8", []fixCase{
		{crossed, "e", "MULTIPOLYGON (" + lower + ", " + upper + ")"},
		{crossed, "-", "MULTIPOLYGON (" + lower + ")"},
		{crossed, "+", "MULTIPOLYGON (" + upper + ")"},
		{"POLYGON ((0 0, 4 0, 4 4, 0 4), (2 0, 3 2, 1 2))", "e",
			"MULTIPOLYGON (((0 0, 4 0, 4 4, 0 4, 0 0), (1 2, 3 2, 2 0, 1 2)))"},
		{"POLYGON ((0 0, 1 1))", "n", nothing},
	})
}

func TestFixRefusesTextsLikePrint(t *testing.T) {
	texts := append(badTexts(), strings.Repeat(" ", 401), strings.Repeat("POLYGON ((99 99))", 99))
	for _, text := range texts {
		_, want, wantPlace := mend.Print(text)
		for rule := range 256 {
			got, errno, place := mend.Fix(text, byte(rule))
			if want == mend.OK || got != "" || errno != want || place != wantPlace {
				t.Errorf("P1, P8: Fix(%q, %d) = %q, %d, %d, want nothing, %d, %d",
					text, rule, got, errno, place, want, wantPlace)
			}
		}
	}
}

func TestFixRefusesRules(t *testing.T) {
	for _, text := range goodTexts() {
		for rule := range 256 {
			want := mend.ErrRule
			if strings.IndexByte(rules, byte(rule)) >= 0 {
				want = mend.OK
			}
			got, errno, place := mend.Fix(text, byte(rule))
			if errno != want || (got == "") != (want != mend.OK) || place != 0 {
				t.Errorf("P8: Fix(%q, %d) = %q, %d, %d, want %d, 0", text, rule, got, errno, place, want)
			}
		}
	}
}

func TestFixWithoutInside(t *testing.T) {
	checkFix(t, "P8", []fixCase{
		{"POLYGON EMPTY", rules, nothing},
		{"MULTIPOLYGON EMPTY", rules, nothing},
		{"MULTIPOLYGON (EMPTY, ((), ()), EMPTY)", rules, nothing},
		{"POLYGON ((7 7))", rules, nothing},
		{"POLYGON ((7 7, 7 7, 7 7))", rules, nothing},
		{"POLYGON ((0 0, 4 0, 2 0, 9 0))", rules, nothing},
		{"POLYGON ((0 0, 4 2, 8 4), (2 1, 6 3))", rules, nothing},
		{"POLYGON ((0 0, 4 4, 0 0, 0 4, 4 0, 0 4))", rules, nothing},
		{"POLYGON ((0 0, 4 0, 0 4), (0 0, 0 4, 4 0))", rules, nothing},
		{"POLYGON ((0 0, 4 0, 0 4), (0 0, 4 0, 0 4))", "e-", nothing},
		{square, "-", nothing},
	})
}

// The inner square is gone around 2, 0, -1 and so on times.
func TestFixRules(t *testing.T) {
	outer := "0 0, 9 0, 9 9, 0 9"
	back := "0 9, 9 9, 9 0, 0 0"
	inner := "3 3, 6 3, 6 6, 3 6"
	innerBack := "3 6, 6 6, 6 3, 3 3"
	full := "MULTIPOLYGON (((0 0, 9 0, 9 9, 0 9, 0 0)))"
	framed := "MULTIPOLYGON (((0 0, 9 0, 9 9, 0 9, 0 0), (3 3, 3 6, 6 6, 6 3, 3 3)))"
	small := "MULTIPOLYGON (((3 3, 6 3, 6 6, 3 6, 3 3)))"
	text := func(rings ...string) string { return "POLYGON ((" + strings.Join(rings, "), (") + "))" }
	checkFix(t, "P8", []fixCase{
		{text(outer, inner), "e", framed},
		{text(outer, inner), "n+", full},
		{text(outer, inner), "-", nothing},
		{text(outer, innerBack), "en+", framed},
		{text(outer, innerBack), "-", nothing},
		{text(back, inner), "en-", framed},
		{text(back, inner), "+", nothing},
		{text(back, innerBack), "e", framed},
		{text(back, innerBack), "n-", full},
		{text(outer, innerBack, innerBack), "en", full},
		{text(outer, innerBack, innerBack), "+", framed},
		{text(outer, innerBack, innerBack), "-", small},
		{text(back, inner, inner), "en", full},
		{text(back, inner, inner), "-", framed},
		{text(back, inner, inner), "+", small},
		{text(back, back, inner), "e", small},
		{text(back, back, inner), "n-", full},
		{text(outer, outer, inner, inner), "e", nothing},
		{text(outer, outer, outer, inner, inner), "en+", full},
	})
}

// Edges with the same on both sides bound nothing, wherever they run.
func TestFixLeavesOutWhatIsNoBoundary(t *testing.T) {
	plain := "MULTIPOLYGON (((0 0, 4 0, 4 4, 0 4, 0 0)))"
	checkFix(t, "P9", []fixCase{
		{"POLYGON ((0 0, 4 0, 4 4, 0 4))", "en+", plain},
		{"POLYGON ((4 4, 4 0, 0 0, 0 4, 4 4))", "en-", plain},
		{"POLYGON ((0 0, 9 0, 4 0, 4 4, 0 4, 0 -9))", "en+", plain},
		{"POLYGON ((0 0, 2 2, 0 0, 4 0, 4 4, 1 1, 4 4, 0 4))", "en+", plain},
		{"POLYGON ((0 0, 4 0, 4 4, 0 4), (1 1, 3 1), (2 0, 2 4), (-9 -9, 9 9))", "en+", plain},
		{"POLYGON ((0 0, 4 0, 4 4), (4 4, 0 4, 0 0))", "en+", plain},
		{"POLYGON ((0 0, 2 0, 2 4, 0 4), (2 0, 4 0, 4 4, 2 4))", "en+", plain},
		{"POLYGON ((0 0, 3 0, 3 4, 0 4), (1 0, 4 0, 4 4, 1 4))", "n+", plain},
		{"POLYGON ((0 0, 2 2, 0 4), (0 0, 4 0, 2 2), (4 0, 4 4, 2 2), (0 4, 2 2, 4 4))", "en+", plain},
		{"MULTIPOLYGON (((0 0, 4 0, 4 4, 0 4)), ((4 1, 4 3)), ((9 9, 8 8)))", "en+", plain},
		{"POLYGON ((0 0, 4 0, 4 4, 0 4, 0 0, 4 0, 4 4, 0 4, 0 0, 4 0, 4 4, 0 4))", "en+", plain},
	})
}

// Rings turn at their corners, and have no other points: not where an edge
// ended, not where one crossed, not where another ring touches.
func TestFixCorners(t *testing.T) {
	checkFix(t, "P11", []fixCase{
		{"POLYGON ((0 2, 0 0, 1 0, 3 0, 4 0, 4 4, 3 4, 0 4))", "en+", "MULTIPOLYGON (((0 0, 4 0, 4 4, 0 4, 0 0)))"},
		{"POLYGON ((0 0, 1 1, 2 2, 1 3, 0 4, 0 2))", "en+", "MULTIPOLYGON (((0 0, 2 2, 0 4, 0 0)))"},
		{"POLYGON ((0 0, 3 1, 6 2, 4 4), (2 0, 5 2))", "en+", "MULTIPOLYGON (((0 0, 6 2, 4 4, 0 0)))"},
		{"POLYGON ((0 0, 6 0, 6 6, 0 6), (3 0, 4 3, 3 6, 2 3))", "e",
			"MULTIPOLYGON (((0 0, 3 0, 2 3, 3 6, 0 6, 0 0)), ((3 0, 6 0, 6 6, 3 6, 4 3, 3 0)))"},
		{"POLYGON ((0 0, 6 0, 6 6, 0 6), (0 3, 2 2, 2 4), (6 3, 4 2, 4 4), (3 6, 4 5, 2 5))", "e",
			"MULTIPOLYGON (((0 0, 6 0, 6 6, 0 6, 0 0), (0 3, 2 4, 2 2, 0 3), (2 5, 3 6, 4 5, 2 5), (4 2, 4 4, 6 3, 4 2)))"},
		{"POLYGON ((0 0, 2 4, 4 0, 0 3, 4 3))", "n-",
			"MULTIPOLYGON (((0 0, 2 3/2, 4 0, 32/11 24/11, 4 3, 5/2 3, 2 4, 3/2 3, 0 3, 12/11 24/11, 0 0)))"},
		{"POLYGON ((-50 -50, 50 49, 50 -50), (-49 50, 50 -50, -50 -50))", "e",
			"MULTIPOLYGON (((-50 -50, 9950/19801 -50/19801, -49 50, -50 -50)), " +
				"((9950/19801 -50/19801, 50 -50, 50 49, 9950/19801 -50/19801)))"},
	})
}

// Where a boundary comes to a point more than once, several rings touch.
func TestFixTouchingRings(t *testing.T) {
	frame := "0 0, 9 0, 9 9, 0 9"
	checkFix(t, "P11", []fixCase{
		// A hole touches a corner of the shell, from inside or as a dent does.
		{"POLYGON ((" + frame + "), (0 0, 6 3, 3 6))", "e",
			"MULTIPOLYGON (((0 0, 9 0, 9 9, 0 9, 0 0), (0 0, 3 6, 6 3, 0 0)))"},
		{"POLYGON ((0 0, 9 0, 9 2, 5 4, 9 6, 9 9, 0 9), (5 4, 3 2, 2 4, 3 6))", "en+",
			"MULTIPOLYGON (((0 0, 9 0, 9 2, 5 4, 9 6, 9 9, 0 9, 0 0), (2 4, 3 6, 5 4, 3 2, 2 4)))"},
		// Holes touch each other, two and four in a point, and in a row.
		{"POLYGON ((" + frame + "), (1 1, 4 4, 1 7), (4 4, 7 1, 7 7))", "e",
			"MULTIPOLYGON (((0 0, 9 0, 9 9, 0 9, 0 0), (1 1, 1 7, 4 4, 1 1), (4 4, 7 7, 7 1, 4 4)))"},
		{"POLYGON ((" + frame + "), (4 4, 3 1, 5 1), (4 4, 7 3, 7 5), (4 4, 5 7, 3 7), (4 4, 1 5, 1 3))", "e",
			"MULTIPOLYGON (((0 0, 9 0, 9 9, 0 9, 0 0), (1 3, 1 5, 4 4, 1 3), (3 1, 4 4, 5 1, 3 1), " +
				"(3 7, 5 7, 4 4, 3 7), (4 4, 7 5, 7 3, 4 4)))"},
		{"POLYGON ((" + frame + "), (0 3, 2 2, 3 4), (3 4, 5 3, 6 5), (6 5, 7 4, 8 6))", "e",
			"MULTIPOLYGON (((0 0, 9 0, 9 9, 0 9, 0 0), (0 3, 3 4, 2 2, 0 3), (3 4, 6 5, 5 3, 3 4), (6 5, 8 6, 7 4, 6 5)))"},
		// A row of holes from shell to shell, or around, parts the inside.
		{"POLYGON ((" + frame + "), (0 3, 4 2, 5 4), (5 4, 7 3, 9 5))", "e",
			"MULTIPOLYGON (((0 0, 9 0, 9 5, 7 3, 5 4, 4 2, 0 3, 0 0)), ((0 3, 5 4, 9 5, 9 9, 0 9, 0 3)))"},
		{"POLYGON ((" + frame + "), (2 2, 7 2, 4 1), (7 2, 5 7, 8 5), (5 7, 2 2, 2 6))", "e",
			"MULTIPOLYGON (((0 0, 9 0, 9 9, 0 9, 0 0), (2 2, 2 6, 5 7, 8 5, 7 2, 4 1, 2 2)), ((2 2, 7 2, 5 7, 2 2)))"},
		// Parts touch each other.
		{"POLYGON ((0 0, 2 0, 2 2, 4 2, 4 4, 2 4, 2 2, 0 2))", "en+",
			"MULTIPOLYGON (((0 0, 2 0, 2 2, 0 2, 0 0)), ((2 2, 4 2, 4 4, 2 4, 2 2)))"},
		{"POLYGON ((0 0, 2 1, 1 2), (0 0, -2 -1, -1 -2), (0 0, 2 -1, 1 -2))", "e",
			"MULTIPOLYGON (((-2 -1, -1 -2, 0 0, -2 -1)), ((0 0, 1 -2, 2 -1, 0 0)), ((0 0, 2 1, 1 2, 0 0)))"},
		// A band comes back to itself in a point.
		{"POLYGON ((0 0, 6 0, 6 6, 3 6, 3 4, 5 4, 5 1, 1 1, 1 3, 3 4, 3 6, 0 6))", "en+",
			"MULTIPOLYGON (((0 0, 6 0, 6 6, 0 6, 0 0), (1 1, 1 3, 3 4, 5 4, 5 1, 1 1)))"},
		{"POLYGON ((0 0, 6 0, 6 5, 3 3, 5 3, 5 1, 1 1, 1 3, 3 3, 0 5))", "en+",
			"MULTIPOLYGON (((0 0, 6 0, 6 5, 3 3, 0 5, 0 0), (1 1, 1 3, 5 3, 5 1, 1 1)))"},
		// What lies in a hole touches it, or the shell through it.
		{"POLYGON ((" + frame + "), (1 1, 8 1, 8 8, 1 8), (1 1, 5 2, 8 8, 2 5))", "e",
			"MULTIPOLYGON (((0 0, 9 0, 9 9, 0 9, 0 0), (1 1, 1 8, 8 8, 8 1, 1 1)), ((1 1, 5 2, 8 8, 2 5, 1 1)))"},
		{"POLYGON ((" + frame + "), (0 0, 8 1, 8 8, 1 8), (0 0, 5 2, 5 5, 2 5))", "e",
			"MULTIPOLYGON (((0 0, 5 2, 5 5, 2 5, 0 0)), ((0 0, 9 0, 9 9, 0 9, 0 0), (0 0, 1 8, 8 8, 8 1, 0 0)))"},
	})
}

// A hole is in the part that is around it, not in one that is further out, or
// below or above it.
func TestFixHolesInTheirShells(t *testing.T) {
	checkFix(t, "P11", []fixCase{
		{"POLYGON ((0 0, 9 0, 9 9, 0 9), (1 1, 8 1, 8 8, 1 8), (2 2, 7 2, 7 7, 2 7), (4 4, 5 4, 4 5))", "e",
			"MULTIPOLYGON (((0 0, 9 0, 9 9, 0 9, 0 0), (1 1, 1 8, 8 8, 8 1, 1 1)), " +
				"((2 2, 7 2, 7 7, 2 7, 2 2), (4 4, 4 5, 5 4, 4 4)))"},
		// Straight below the hole is another one, and another part in that.
		{"POLYGON ((0 0, 9 0, 9 9, 0 9), (3 1, 6 1, 6 5, 3 5), (4 2, 5 2, 5 3, 4 3), (4 7, 5 6, 5 8))", "e",
			"MULTIPOLYGON (((0 0, 9 0, 9 9, 0 9, 0 0), (3 1, 3 5, 6 5, 6 1, 3 1), (4 7, 5 8, 5 6, 4 7)), " +
				"((4 2, 5 2, 5 3, 4 3, 4 2)))"},
		// Straight below the hole is a corner, from which two parts go up.
		{"POLYGON ((8 0, 18 6, 18 18, 0 18, 0 6), (8 0, 14 12, 2 12), (8 0, 10 8, 6 8), (8 14, 9 14, 9 15), (8 4, 9 6, 8 6))", "e",
			"MULTIPOLYGON (((0 6, 8 0, 18 6, 18 18, 0 18, 0 6), (2 12, 14 12, 8 0, 2 12), (8 14, 9 15, 9 14, 8 14)), " +
				"((6 8, 8 0, 10 8, 6 8), (8 4, 8 6, 9 6, 8 4)))"},
		{"POLYGON ((0 0, 9 -9, 9 0), (0 0, 9 1, 9 9, 0 9), (0 5, 2 4, 3 6), (6 -3, 7 -4, 7 -2))", "e",
			"MULTIPOLYGON (((0 0, 9 -9, 9 0, 0 0), (6 -3, 7 -2, 7 -4, 6 -3)), " +
				"((0 0, 9 1, 9 9, 0 9, 0 0), (0 5, 3 6, 2 4, 0 5)))"},
		// Straight below the hole a part ends, and one begins.
		{"POLYGON ((0 0, 8 0, 8 8, 0 8), (1 4, 4 2, 4 3), (4 2, 7 1, 7 3), (4 5, 5 6, 5 5))", "e",
			"MULTIPOLYGON (((0 0, 8 0, 8 8, 0 8, 0 0), (1 4, 4 3, 4 2, 1 4), (4 2, 7 3, 7 1, 4 2), (4 5, 5 6, 5 5, 4 5)))"},
		// The hole's part has the same least corner as the one around.
		{"POLYGON ((0 0, 9 0, 9 9, 0 9), (0 0, 8 1, 8 8, 1 8), (0 0, 7 2, 6 6, 2 7), (3 3, 4 3, 3 4))", "e",
			"MULTIPOLYGON (((0 0, 7 2, 6 6, 2 7, 0 0), (3 3, 3 4, 4 3, 3 3)), " +
				"((0 0, 9 0, 9 9, 0 9, 0 0), (0 0, 1 8, 8 8, 8 1, 0 0)))"},
		// Each of two parts side by side has its own.
		{"POLYGON ((0 0, 4 0, 4 4, 0 4), (5 0, 9 0, 9 4, 5 4), (6 1, 7 1, 6 2), (1 1, 2 1, 1 2))", "e",
			"MULTIPOLYGON (((0 0, 4 0, 4 4, 0 4, 0 0), (1 1, 1 2, 2 1, 1 1)), ((5 0, 9 0, 9 4, 5 4, 5 0), (6 1, 6 2, 7 1, 6 1)))"},
		// Upright sides below the hole hide nothing.
		{"POLYGON ((0 0, 4 0, 4 2, 9 2, 9 9, 0 9), (4 4, 5 4, 5 5), (2 3, 4 3, 2 1))", "e",
			"MULTIPOLYGON (((0 0, 4 0, 4 2, 9 2, 9 9, 0 9, 0 0), (2 1, 2 3, 4 3, 2 1), (4 4, 5 5, 5 4, 4 4)))"},
	})
}

// Corners, rings and polygons stand by values, not by how they are written.
func TestFixOrder(t *testing.T) {
	checkFix(t, "P12", []fixCase{
		{"POLYGON ((5 5, 0 9, -9 1, 0 -9))", "en+", "MULTIPOLYGON (((-9 1, 0 -9, 5 5, 0 9, -9 1)))"},
		{"POLYGON ((4 4, 0 4, 0 -10, 4 -9))", "en+", "MULTIPOLYGON (((0 -10, 4 -9, 4 4, 0 4, 0 -10)))"},
		{"POLYGON ((10 0, 11 0, 10 1), (9 0, 9 1, 8 0), (-1 0, -2 0, -1 1), (-10 0, -11 1, -11 0))", "e",
			"MULTIPOLYGON (((-11 0, -10 0, -11 1, -11 0)), ((-2 0, -1 0, -1 1, -2 0)), " +
				"((8 0, 9 0, 9 1, 8 0)), ((10 0, 11 0, 10 1, 10 0)))"},
		{"POLYGON ((2 10, 3 10, 3 11), (2 9, 3 9, 3 8), (2 -9, 3 -9, 3 -8), (2 -10, 3 -10, 3 -11))", "e",
			"MULTIPOLYGON (((2 -10, 3 -11, 3 -10, 2 -10)), ((2 -9, 3 -9, 3 -8, 2 -9)), " +
				"((2 9, 3 8, 3 9, 2 9)), ((2 10, 3 10, 3 11, 2 10)))"},
		{"POLYGON ((0 0, 20 0, 20 20, 0 20), (10 9, 12 9, 12 11), (9 10, 9 12, 8 10), (10 3, 12 3, 11 2))", "e",
			"MULTIPOLYGON (((0 0, 20 0, 20 20, 0 20, 0 0), (8 10, 9 12, 9 10, 8 10), (10 3, 12 3, 11 2, 10 3), " +
				"(10 9, 12 11, 12 9, 10 9)))"},
		// Of rings that begin with the same corner, the second one tells.
		{"POLYGON ((0 0, 3 9, 1 9), (0 0, 9 3, 9 1), (0 0, 5 5, 4 5))", "e",
			"MULTIPOLYGON (((0 0, 3 9, 1 9, 0 0)), ((0 0, 5 5, 4 5, 0 0)), ((0 0, 9 1, 9 3, 0 0)))"},
		{"POLYGON ((-9 -9, 19 -9, 19 19, -9 19), (0 0, 3 9, 1 9), (0 0, 9 3, 9 1), (0 0, 5 5, 4 5))", "e",
			"MULTIPOLYGON (((-9 -9, 19 -9, 19 19, -9 19, -9 -9), (0 0, 1 9, 3 9, 0 0), (0 0, 4 5, 5 5, 0 0), (0 0, 9 3, 9 1, 0 0)))"},
		// Fractions.
		{"POLYGON ((0 0, 5 0), (1 -1, 2 1, 3 -2, 2 -2, 3 1, 1 1), (4 4, 5 4, 5 5))", "n",
			"MULTIPOLYGON (((1 -1, 2 1, 1 1, 1 -1)), ((2 -2, 3 -2, 5/2 -1/2, 2 -2)), ((2 1, 5/2 -1/2, 3 1, 2 1)), ((4 4, 5 4, 5 5, 4 4)))"},
	})
}

// checkFixed asks Fix and holds what it answers against all promises.
func checkFixed(t *testing.T, rings [][]dot, rule byte) answered {
	t.Helper()
	text := textOf(rings)
	got, errno, place := mend.Fix(text, rule)
	if errno != mend.OK || place != 0 {
		t.Fatalf("P8: Fix(%q, %q) = %q, %d, %d", text, rule, got, errno, place)
	}
	failed := t.Failed()
	a := readAnswer(t, got)
	nodes := nodePlaces(rings)
	a.checkOrder(t)
	a.checkRings(t, nodes)
	a.checkRegion(t, rings, rule, nodes)
	if !failed && t.Failed() {
		t.Fatalf("Fix(%q, %q) = %q", text, rule, got)
	}
	return a
}

func TestFixAgainstCells(t *testing.T) {
	source := rand.New(rand.NewSource(4))
	polygons, holes := 0, 0
	for _, reach := range []int{1, 2, 3, 5, 10, 50} {
		for i := range 40 {
			rings := randomRings(source, reach)
			if i%2 == 0 {
				rings = framedRings(source, reach)
			}
			for _, rule := range []byte(rules) {
				for _, polygon := range checkFixed(t, rings, rule) {
					polygons++
					holes += len(polygon) - 1
				}
			}
		}
	}
	if polygons < 1000 || holes < 200 {
		t.Errorf("too few polygons and holes tried: %d, %d", polygons, holes)
	}
}

// The most edges that a text has room for.
func TestFixOfManyEdges(t *testing.T) {
	source := rand.New(rand.NewSource(5))
	for _, rule := range []byte("e-") {
		ring := make([]dot, 97)
		for i := range ring {
			ring[i] = dot{source.Intn(10), source.Intn(10)}
		}
		checkFixed(t, [][]dot{ring}, rule)
	}
}
