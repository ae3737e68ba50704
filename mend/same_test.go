package mend_test

import (
	"math/rand"
	"slices"
	"testing"

	"mend/mend"
)

// Texts that have the same region have the same answer (P9).

func copied(rings [][]dot) [][]dot {
	var all [][]dot
	for _, ring := range rings {
		all = append(all, slices.Clone(ring))
	}
	return all
}

func reversed(rings [][]dot) [][]dot {
	all := copied(rings)
	for _, ring := range all {
		slices.Reverse(ring)
	}
	return all
}

func turned(ring []dot, start int) []dot {
	return slices.Concat(ring[start:], ring[:start])
}

// otherwise gives rings with other edges, or in another order, which go around
// each point as often.
func otherwise(source *rand.Rand, rings [][]dot) [][]dot {
	all := copied(rings)
	i := source.Intn(len(all))
	ring := all[i]
	if len(ring) == 0 {
		return all
	}
	at := source.Intn(len(ring))
	p := ring[at]
	switch source.Intn(8) {
	case 0:
		all[i] = turned(ring, at)
	case 1:
		all[i] = slices.Insert(ring, at, p)
	case 2: // closed by its first point
		all[i] = append(ring, ring[0])
	case 3: // a way out and back
		all[i] = slices.Insert(ring, at, p, randomDot(source, 9))
	case 4: // cut in two from point to point
		ring = turned(ring, at)
		cut := source.Intn(len(ring))
		all[i] = slices.Clone(ring[cut:])
		all[i] = append(all[i], ring[0])
		all = append(all, slices.Clone(ring[:cut+1]))
	case 5: // a ring there and back
		more := []dot{randomDot(source, 9), randomDot(source, 9), randomDot(source, 9)}
		all = append(all, more, []dot{more[2], more[1], more[0]})
	case 6: // joined with another one by a way there and back
		other := source.Intn(len(all))
		if other != i && len(all[other]) > 0 {
			all[i] = slices.Concat(ring[:at+1], all[other], all[other][:1], ring[at:])
			all = slices.Delete(all, other, other+1)
		}
	case 7:
		all[i] = between(ring, at)
	}
	source.Shuffle(len(all), func(a, b int) { all[a], all[b] = all[b], all[a] })
	return all
}

// between puts the middle of an edge into the ring, if it is whole.
func between(ring []dot, at int) []dot {
	p, q := ring[at], ring[(at+1)%len(ring)]
	if (p.x+q.x)%2 != 0 || (p.y+q.y)%2 != 0 {
		return ring
	}
	return slices.Insert(ring, at+1, dot{(p.x + q.x) / 2, (p.y + q.y) / 2})
}

func checkSame(t *testing.T, first [][]dot, firstRule byte, second [][]dot, secondRule byte) {
	t.Helper()
	a, b := textOf(first), textOf(second)
	if len(a) > 400 || len(b) > 400 {
		return
	}
	want, errno, _ := mend.Fix(a, firstRule)
	got, otherErrno, _ := mend.Fix(b, secondRule)
	if got != want || errno != mend.OK || otherErrno != mend.OK {
		t.Errorf("P9: Fix(%q, %q) = %q, Fix(%q, %q) = %q", a, firstRule, want, b, secondRule, got)
	}
}

func someRings(source *rand.Rand) [][]dot {
	reach := []int{1, 2, 4, 9, 50}[source.Intn(5)]
	if source.Intn(2) == 0 {
		return framedRings(source, reach)
	}
	return randomRings(source, reach)
}

func TestFixOfOtherEdges(t *testing.T) {
	source := rand.New(rand.NewSource(6))
	for range 1000 {
		first := someRings(source)
		second := first
		for range 1 + source.Intn(6) {
			second = otherwise(source, second)
		}
		for _, rule := range []byte(rules) {
			checkSame(t, first, rule, second, rule)
		}
	}
}

func TestFixOfRingsTheOtherWay(t *testing.T) {
	source := rand.New(rand.NewSource(7))
	for range 500 {
		first := someRings(source)
		second := reversed(first)
		for i := range rules {
			checkSame(t, first, "en+-"[i], second, "en-+"[i])
		}
		one := source.Intn(len(first))
		third := slices.Concat(first[:one], reversed(first[one:one+1]), first[one+1:])
		checkSame(t, first, 'e', third, 'e')
	}
}

func TestFixOfRingsTwice(t *testing.T) {
	source := rand.New(rand.NewSource(8))
	for range 300 {
		first := someRings(source)
		for _, rule := range []byte("n+-") {
			checkSame(t, first, rule, slices.Concat(first, first), rule)
		}
		checkSame(t, first, 'e', slices.Concat(first, first, first), 'e')
		checkSame(t, [][]dot{nil}, 'e', slices.Concat(first, first), 'e')
	}
}

// What is in order stays as it is, and has nothing below 0.
func TestFixOfWhatIsFixed(t *testing.T) {
	source := rand.New(rand.NewSource(9))
	tried := 0
	for range 4000 {
		rings := someRings(source)
		rule := rules[source.Intn(len(rules))]
		fixed, _, _ := mend.Fix(textOf(rings), rule)
		printed, errno, _ := mend.Print(fixed)
		if errno != mend.OK {
			continue
		}
		tried++
		if printed != fixed {
			t.Errorf("P8: Print(%q) = %q", fixed, printed)
		}
		for _, again := range []byte("en+") {
			if got, _, _ := mend.Fix(fixed, again); got != fixed {
				t.Errorf("P9: Fix(%q, %q) = %q", fixed, again, got)
			}
		}
		if got, _, _ := mend.Fix(fixed, '-'); got != nothing {
			t.Errorf("P11: Fix(%q, '-') = %q", fixed, got)
		}
	}
	if tried < 500 {
		t.Errorf("too few texts tried: %d", tried)
	}
}

// A region of squares is the same whether they are taken one by one or row by
// row, upright or level.
func TestFixOfSquares(t *testing.T) {
	source := rand.New(rand.NewSource(10))
	for i := range 400 {
		squares := map[dot]int{}
		for range 1 + source.Intn(14) {
			squares[dot{source.Intn(4), source.Intn(4)}] = 1
		}
		level, upright := dot{1, 0}, dot{0, 1}
		one, across, up := bars(squares, dot{}), bars(squares, level), bars(squares, upright)
		for _, rule := range []byte("en+") {
			checkSame(t, one, rule, across, rule)
			checkSame(t, one, rule, up, 'n')
		}
		if i%4 == 0 {
			checkFixed(t, one, 'e')
		}
	}
}

// bars makes a ring of each row of squares that goes on by the step.
func bars(squares map[dot]int, step dot) [][]dot {
	var rings [][]dot
	for x := range 4 {
		for y := range 4 {
			before := dot{x - step.x, y - step.y}
			if squares[dot{x, y}] == 0 || step != (dot{}) && squares[before] == 1 {
				continue
			}
			end := dot{x, y}
			for next := (dot{x + step.x, y + step.y}); next != end && squares[next] == 1; next = (dot{end.x + step.x, end.y + step.y}) {
				end = next
			}
			rings = append(rings, []dot{{x, y}, {end.x + 1, y}, {end.x + 1, end.y + 1}, {x, end.y + 1}})
		}
	}
	return rings
}
