package mend_test

import (
	"math"
	"strings"
	"sync"
	"testing"

	"mend/mend"
)

func goodTexts() []string {
	return []string{
		"POLYGON EMPTY",
		"MULTIPOLYGON(EMPTY,EMPTY)",
		"POLYGON (())",
		"POLYGON((0 0,04 -0,0 4))",
		"POLYGON ((0 0, 4 4, 0 4, 4 0))",
		"MULTIPOLYGON (((0 0, 4 0, 4 4, 0 4), (1 1, 1 3, 3 3)), EMPTY, ((), (50-50)))",
	}
}

func badTexts() []string {
	return []string{
		"",
		"POLYGON",
		"POLYGON ()",
		"POLYGON ((0 0 0))",
		"POLYGON ((0 0, 4 0, 4 4)",
		"POLYGON ((0 0, 4 0, 4 4)) )",
		"POLYGON ((0 0, 51 0, 0 1))",
		"MULTIPOLYGON (((0 0, 1 0, 0 -51)))",
		"\xff\xfe",
	}
}

// A told is a text that a call answers, and what goes with it.
type told struct {
	text  string
	errno mend.Errno
	place int
}

// An answer holds all that the calls tell of one text.
type answer struct {
	print, nodes, fix told
	turns             int
	on                bool
	errno             mend.Errno
	place             int
}

func ask(text string, x, y, d int, rule byte) answer {
	var a answer
	a.print.text, a.print.errno, a.print.place = mend.Print(text)
	a.nodes.text, a.nodes.errno, a.nodes.place = mend.Nodes(text)
	a.fix.text, a.fix.errno, a.fix.place = mend.Fix(text, rule)
	a.turns, a.on, a.errno, a.place = mend.Wind(text, x, y, d)
	return a
}

// checkEmpty: with an error all but the place is nothing, without one the
// place is.
func checkEmpty(t *testing.T, text string, a answer) {
	t.Helper()
	for _, one := range []told{a.print, a.nodes, a.fix} {
		if one.errno != mend.OK && one.text != "" || !placeFits(text, one.errno, one.place) {
			t.Errorf("P1: of %q: %v", text, one)
		}
	}
	if a.errno != mend.OK && (a.turns != 0 || a.on) || !placeFits(text, a.errno, a.place) {
		t.Errorf("P1: Wind(%q) = %d, %v, %d, %d", text, a.turns, a.on, a.errno, a.place)
	}
}

func placeFits(text string, errno mend.Errno, place int) bool {
	if errno == mend.ErrForm || errno == mend.ErrRange {
		return 0 <= place && place <= len(text)
	}
	return place == 0
}

// All rows of up to four pieces, behind each of some starts.
func TestNoCallPanics(t *testing.T) {
	pieces := []string{"POLYGON", "EMPTY", " ", "(", ")", ",", "-", "7", "51", "\x00", "a"}
	starts := []string{"", "POLYGON ((1 2", "MULTIPOLYGON (((0 0, 4 0, 0 4"}
	var grow func(text string, more int)
	grow = func(text string, more int) {
		checkEmpty(t, text, ask(text, 1, 1, 1, 'e'))
		if more == 0 {
			return
		}
		for _, piece := range pieces {
			grow(text+piece, more-1)
		}
	}
	for _, start := range starts {
		grow(start, 4)
	}
}

func TestNoCallPanicsAtAnyByteOrNumber(t *testing.T) {
	numbers := []int{math.MinInt, -100001, -100000, -1, 0, 1, 60, 61, 100000, 100001, math.MaxInt}
	texts := append(append(goodTexts(), badTexts()...), strings.Repeat("POLYGON ", 1000))
	for _, text := range texts {
		for _, x := range numbers {
			for _, y := range numbers {
				for _, d := range numbers {
					checkEmpty(t, text, ask(text, x, y, d, 'n'))
				}
			}
		}
		for b := range 256 {
			checkEmpty(t, text, ask(text, 0, 0, 1, byte(b)))
			mixed := text[:len(text)/2] + string([]byte{byte(b)}) + text[len(text)/2:]
			checkEmpty(t, mixed, ask(mixed, 0, 0, 1, 'e'))
		}
	}
}

func TestAnswersDoNotHangOnEarlierCalls(t *testing.T) {
	texts := append(goodTexts(), badTexts()...)
	var first []answer
	for _, text := range texts {
		first = append(first, ask(text, 1, 2, 1, 'e'))
	}
	for i := range texts {
		for j := range texts {
			ask(texts[j], 3, 4, 5, '+')
			if again := ask(texts[i], 1, 2, 1, 'e'); again != first[i] {
				t.Errorf("P2: %q behind %q: %v, at first %v", texts[i], texts[j], again, first[i])
			}
		}
	}
}

func TestAnswersDoNotHangOnCallsBeside(t *testing.T) {
	texts := append(goodTexts(), badTexts()...)
	want := make([]answer, len(texts))
	for i, text := range texts {
		want[i] = ask(text, 1, 2, 1, 'e')
	}
	var all sync.WaitGroup
	for range 8 {
		all.Go(func() {
			for range 50 {
				for i, text := range texts {
					if got := ask(text, 1, 2, 1, 'e'); got != want[i] {
						t.Errorf("P2: %q: %v, alone %v", text, got, want[i])
					}
				}
			}
		})
	}
	all.Wait()
}
