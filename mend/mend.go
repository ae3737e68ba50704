// Package mend puts polygons right: see DOC.md.
package mend

// Errno is what a call answers: OK or the reason for a refusal.
type Errno int

const (
	OK       Errno = 0
	ErrLong  Errno = 1 // a text above its bound
	ErrForm  Errno = 2 // no polygons
	ErrRange Errno = 3 // a number beyond its bound
	ErrRule  Errno = 4 // no rule
	ErrPoint Errno = 5 // a point beyond its bounds
)

const (
	maxText  = 400
	maxCoord = 50
	maxPart  = 60
	maxProbe = 100000
)

// Print writes a text in one way (P3, P4).
func Print(text string) (string, Errno, int) {
	read, errno, place := readText(text)
	if errno != OK {
		return "", errno, place
	}
	return writeTokens(read.tokens), OK, 0
}

// Wind tells how often the rings go around a point, and whether it lies on one (P5, P6).
func Wind(text string, x int, y int, d int) (int, bool, Errno, int) {
	read, errno, place := readText(text)
	if errno != OK {
		return 0, false, errno, place
	}
	if d < 1 || d > maxPart || !within(x, maxProbe) || !within(y, maxProbe) {
		return 0, false, ErrPoint, 0
	}
	turns, on := turnsAround(edgesOf(read.rings), nodeAt(pointAt(x, y), d))
	return turns, on, OK, 0
}

// Nodes writes the points in which edges begin, end and meet (P7).
func Nodes(text string) (string, Errno, int) {
	read, errno, place := readText(text)
	if errno != OK {
		return "", errno, place
	}
	return writeNodes(nodesOf(edgesOf(read.rings))), OK, 0
}

// Fix writes what a rule takes in, put right (P8 to P12).
func Fix(text string, rule byte) (string, Errno, int) {
	read, errno, place := readText(text)
	if errno != OK {
		return "", errno, place
	}
	if !isRule(rule) {
		return "", ErrRule, 0
	}
	return writePolygons(boundaryOf(edgesOf(read.rings), rule).polygons()), OK, 0
}

// within compares on both sides, since the least int has no opposite.
func within(value, bound int) bool {
	return -bound <= value && value <= bound
}
