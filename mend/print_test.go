package mend_test

import (
	"strings"
	"testing"

	"mend/mend"
)

type printCase struct {
	text, want string
	errno      mend.Errno
	place      int
}

func checkPrint(t *testing.T, promise string, cases []printCase) {
	t.Helper()
	for _, c := range cases {
		got, errno, place := mend.Print(c.text)
		if got != c.want || errno != c.errno || place != c.place {
			t.Errorf("%s: Print(%q) = %q, %d, %d, want %q, %d, %d",
				promise, c.text, got, errno, place, c.want, c.errno, c.place)
		}
	}
}

func TestPrintExamples(t *testing.T) {
	checkPrint(t, "Examples", []printCase{
		{"POLYGON((0 0,04 -0,0 4))", "POLYGON ((0 0, 4 0, 0 4))", mend.OK, 0},
		{"POLYGON ((0 0, 51 0, 0 1))", "", mend.ErrRange, 15},
		{"POLYGON ((0 0 0))", "", mend.ErrForm, 14},
	})
}

func TestPrintLong(t *testing.T) {
	start := "POLYGON ((1 2))"
	pad := strings.Repeat(" ", 400-len(start))
	checkPrint(t, "P3", []printCase{
		{start + pad, start, mend.OK, 0},
		{pad + start, start, mend.OK, 0},
		{start + pad + " ", "", mend.ErrLong, 0},
		{strings.Repeat("?", 400), "", mend.ErrForm, 0},
		{strings.Repeat("?", 401), "", mend.ErrLong, 0},
		{strings.Repeat(" ", 400), "", mend.ErrForm, 400},
		{"POLYGON ((99 99))" + strings.Repeat(" ", 400), "", mend.ErrLong, 0},
	})
}

func TestPrintLongIsCheaplyFound(t *testing.T) {
	long := strings.Repeat("(", 1<<20)
	if n := testing.AllocsPerRun(10, func() { mend.Print(long) }); n != 0 {
		t.Errorf("P1: Print of a long text takes memory %v times", n)
	}
	if n := testing.AllocsPerRun(10, func() { mend.Wind(long, 0, 0, 0) }); n != 0 {
		t.Errorf("P1: Wind of a long text takes memory %v times", n)
	}
	if n := testing.AllocsPerRun(10, func() { mend.Nodes(long) }); n != 0 {
		t.Errorf("P1: Nodes of a long text takes memory %v times", n)
	}
	if n := testing.AllocsPerRun(10, func() { mend.Fix(long, 'e') }); n != 0 {
		t.Errorf("P1: Fix of a long text takes memory %v times", n)
	}
}

func TestPrintWrongTokens(t *testing.T) {
	checkPrint(t, "P3", []printCase{
		{"POLYGON\t((1 2))", "", mend.ErrForm, 7},
		{"POLYGON\n((1 2))", "", mend.ErrForm, 7},
		{"POLYGON \x00((1 2))", "", mend.ErrForm, 8},
		{"POLYGON\u00a0((1 2))", "", mend.ErrForm, 7},
		{"POLYGON ((\u0661 2))", "", mend.ErrForm, 10},
		{"POLYGON ((1 2\xff))", "", mend.ErrForm, 13},
		{"POLYGON [[1 2]]", "", mend.ErrForm, 8},
		{"POLYGON ((1; 2))", "", mend.ErrForm, 11},
		{"POLYGON ((1.5 2))", "", mend.ErrForm, 11},
		{"POLYGON ((+1 2))", "", mend.ErrForm, 10},
		{"POLYGON ((1 -))", "", mend.ErrForm, 12},
		{"POLYGON ((--1 2))", "", mend.ErrForm, 10},
		{"POLYGON ((1- 2))", "", mend.ErrForm, 11},
		{"POLYGON ((000000001 2))", "POLYGON ((1 2))", mend.OK, 0},
		{"POLYGON ((0000000001 2))", "", mend.ErrForm, 10},
		{"POLYGON ((-000000001 2))", "POLYGON ((-1 2))", mend.OK, 0},
		{"POLYGON ((-0000000001 2))", "", mend.ErrForm, 10},
		{"POLYGON ((1 0000000002))", "", mend.ErrForm, 12},
		{"POLYGON ((1 12345678901234567890123))", "", mend.ErrForm, 12},
		{"POLYGON ((1 2)) -", "", mend.ErrForm, 16},
		{"Polygon ((1 2))", "", mend.ErrForm, 0},
		{"POLYGONs ((1 2))", "", mend.ErrForm, 7},
		{"POLYGON (e)", "", mend.ErrForm, 9},
	})
}

func TestPrintTokensThatCannotStand(t *testing.T) {
	checkPrint(t, "P3", []printCase{
		{"  EMPTY", "", mend.ErrForm, 2},
		{"EMPTY", "", mend.ErrForm, 0},
		{"((1 2))", "", mend.ErrForm, 0},
		{"1", "", mend.ErrForm, 0},
		{"POLY GON ((1 2))", "", mend.ErrForm, 0},
		{"POLYGONS ((1 2))", "", mend.ErrForm, 0},
		{"MULTI POLYGON EMPTY", "", mend.ErrForm, 0},
		{"MULTIPOLYGONEMPTY", "", mend.ErrForm, 0},
		{"POLYGON12", "", mend.ErrForm, 7},
		{"POLYGON POLYGON EMPTY", "", mend.ErrForm, 8},
		{"POLYGON EMPTY EMPTY", "", mend.ErrForm, 14},
		{"POLYGON EMPTY, EMPTY", "", mend.ErrForm, 13},
		{"POLYGON EMPTY ()", "", mend.ErrForm, 14},
		{"POLYGON )", "", mend.ErrForm, 8},
		{"POLYGON ,", "", mend.ErrForm, 8},
		{"POLYGON (EMPTY)", "", mend.ErrForm, 9},
		{"POLYGON (1 2)", "", mend.ErrForm, 9},
		{"POLYGON (,(1 2))", "", mend.ErrForm, 9},
		{"POLYGON ((EMPTY))", "", mend.ErrForm, 10},
		{"POLYGON ((,1 2))", "", mend.ErrForm, 10},
		{"POLYGON (((1 2)))", "", mend.ErrForm, 10},
		{"POLYGON ((1))", "", mend.ErrForm, 11},
		{"POLYGON ((1, 2))", "", mend.ErrForm, 11},
		{"POLYGON ((1 2 3))", "", mend.ErrForm, 14},
		{"POLYGON ((1 2-3))", "", mend.ErrForm, 13},
		{"POLYGON ((1 2 EMPTY))", "", mend.ErrForm, 14},
		{"POLYGON ((1 2,))", "", mend.ErrForm, 14},
		{"POLYGON ((1 2,,3 4))", "", mend.ErrForm, 14},
		{"POLYGON ((1 2) (3 4))", "", mend.ErrForm, 15},
		{"POLYGON ((1 2),)", "", mend.ErrForm, 15},
		{"POLYGON ((1 2), EMPTY)", "", mend.ErrForm, 16},
		{"POLYGON ((1 2)))", "", mend.ErrForm, 15},
		{"POLYGON ((1 2)) POLYGON EMPTY", "", mend.ErrForm, 16},
		{"MULTIPOLYGON ()", "", mend.ErrForm, 14},
		{"MULTIPOLYGON (())", "", mend.ErrForm, 15},
		{"MULTIPOLYGON ((1 2))", "", mend.ErrForm, 15},
		{"MULTIPOLYGON ((EMPTY))", "", mend.ErrForm, 15},
		{"MULTIPOLYGON (EMPTY EMPTY)", "", mend.ErrForm, 20},
		{"MULTIPOLYGON (EMPTY,)", "", mend.ErrForm, 20},
		{"MULTIPOLYGON EMPTY, EMPTY", "", mend.ErrForm, 18},
		{"MULTIPOLYGON (POLYGON ((1 2)))", "", mend.ErrForm, 14},
	})
}

func TestPrintEndsTooEarly(t *testing.T) {
	checkPrint(t, "P3", []printCase{
		{"", "", mend.ErrForm, 0},
		{"   ", "", mend.ErrForm, 3},
		{"POLYGON", "", mend.ErrForm, 7},
		{"POLYGON  ", "", mend.ErrForm, 9},
		{"MULTIPOLYGON", "", mend.ErrForm, 12},
		{"POLYGON ((1 2)", "", mend.ErrForm, 14},
		{"POLYGON ((1 2)   ", "", mend.ErrForm, 17},
	})
}

// Cut ahead of any of its tokens a text ends too early; with something between
// that is no token, the fault is there.
func TestPrintEveryCut(t *testing.T) {
	text := "MULTIPOLYGON (EMPTY,((),(1-2, -03 4)) , ((5 6) ) )"
	tokens := 0
	for i := 1; i < len(text); i++ {
		if !tokenBegins(text, i) {
			continue
		}
		tokens++
		checkPrint(t, "P3", []printCase{
			{text[:i], "", mend.ErrForm, i},
			{text[:i] + "?" + text[i:], "", mend.ErrForm, i},
			{text[:i] + " POLYGON " + text[i:], "", mend.ErrForm, i + 1},
		})
	}
	if tokens != 23 {
		t.Errorf("tokens behind the first one: %d", tokens)
	}
}

func tokenBegins(text string, i int) bool {
	signs := "(),"
	switch {
	case text[i] == ' ':
		return false
	case text[i] == '-', strings.IndexByte(signs, text[i]) >= 0:
		return true
	}
	return strings.IndexByte(" "+signs, text[i-1]) >= 0
}

func TestPrintRange(t *testing.T) {
	checkPrint(t, "P3", []printCase{
		{"POLYGON ((50 -50))", "POLYGON ((50 -50))", mend.OK, 0},
		{"POLYGON ((51 0))", "", mend.ErrRange, 10},
		{"POLYGON ((0 51))", "", mend.ErrRange, 12},
		{"POLYGON ((-51 0))", "", mend.ErrRange, 10},
		{"POLYGON ((0-51))", "", mend.ErrRange, 11},
		{"POLYGON ((050 000000050))", "POLYGON ((50 50))", mend.OK, 0},
		{"POLYGON ((050 000000051))", "", mend.ErrRange, 14},
		{"POLYGON ((999999999 0))", "", mend.ErrRange, 10},
		{"POLYGON ((-999999999 0))", "", mend.ErrRange, 10},
		{"POLYGON ((1 2, 60 70), (80 90))", "", mend.ErrRange, 15},
		{"MULTIPOLYGON (EMPTY, ((), (1 2)), ((3 -70)))", "", mend.ErrRange, 38},
	})
}

func TestPrintFormGoesAheadOfRange(t *testing.T) {
	checkPrint(t, "P1, P3", []printCase{
		{"POLYGON ((51 0", "", mend.ErrForm, 14},
		{"POLYGON ((51 0)) ?", "", mend.ErrForm, 17},
		{"POLYGON ((51 0, 52 1, ))", "", mend.ErrForm, 22},
		{"POLYGON ((51 1234567890))", "", mend.ErrForm, 13},
	})
}

func TestPrintWrites(t *testing.T) {
	checkPrint(t, "P4", []printCase{
		{"POLYGON EMPTY", "POLYGON EMPTY", mend.OK, 0},
		{"  POLYGON   EMPTY  ", "POLYGON EMPTY", mend.OK, 0},
		{"MULTIPOLYGON EMPTY", "MULTIPOLYGON EMPTY", mend.OK, 0},
		{"MULTIPOLYGON(EMPTY,EMPTY)", "MULTIPOLYGON (EMPTY, EMPTY)", mend.OK, 0},
		{"POLYGON(())", "POLYGON (())", mend.OK, 0},
		{"POLYGON ( ( ) , ( ) )", "POLYGON ((), ())", mend.OK, 0},
		{"POLYGON((1 2,3 4),(5 6))", "POLYGON ((1 2, 3 4), (5 6))", mend.OK, 0},
		{" POLYGON ( ( 1  2 , 3  4 ) ) ", "POLYGON ((1 2, 3 4))", mend.OK, 0},
		{"POLYGON((-0 -00,-007 0,0-1,010 00))", "POLYGON ((0 0, -7 0, 0 -1, 10 0))", mend.OK, 0},
		{"POLYGON ((1 2, 1 2, 1 2))", "POLYGON ((1 2, 1 2, 1 2))", mend.OK, 0},
		{"MULTIPOLYGON(((1 2)),EMPTY,((),(3 4)))", "MULTIPOLYGON (((1 2)), EMPTY, ((), (3 4)))", mend.OK, 0},
	})
}

func TestPrintOfWhatIsPrinted(t *testing.T) {
	for _, text := range goodTexts() {
		once, errno, _ := mend.Print(text)
		if errno != mend.OK {
			t.Errorf("P3: Print(%q): %d", text, errno)
		}
		checkPrint(t, "P4", []printCase{{once, once, mend.OK, 0}})
	}
}
