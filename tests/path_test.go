package tests

import (
	"fmt"
	"slices"
	"strings"
	"testing"

	"loop.example/g00409/impl"
)

type pathRow struct {
	why, path string
	ways      [][]impl.Pt
	printed   string
}

func pathRows() []pathRow {
	return []pathRow{
		{"a triangle", "M 0 0 H 1 V 1 Z", waysOf(wayOf(0, 0, 1, 0, 1, 1)), "M 0 0 L 1 0 L 1 1 Z"},
		{"great letters alone", "M 1 2 L 3 -4 H 5 V 6 Z", waysOf(wayOf(1, 2, 3, -4, 5, -4, 5, 6)), "M 1 2 L 3 -4 L 5 -4 L 5 6 Z"},
		{"small letters", "M 1 2 l 3 -4 h 5 v 6 Z", waysOf(wayOf(1, 2, 4, -2, 9, -2, 9, 4)), "M 1 2 L 4 -2 L 9 -2 L 9 4 Z"},
		{"all letters", "M 1 2 L 3 4 l 5 -6 H 7 V -8 h 9 v 10 Z", waysOf(wayOf(1, 2, 3, 4, 8, -2, 7, -2, 7, -8, 16, -8, 16, 2)), "M 1 2 L 3 4 L 8 -2 L 7 -2 L 7 -8 L 16 -8 L 16 2 Z"},
		{"all letters, the other way round", "M 1 2 v 10 h 9 V -8 H 7 l 5 -6 L 3 4 Z", waysOf(wayOf(1, 2, 1, 12, 10, 12, 10, -8, 7, -8, 12, -14, 3, 4)), "M 1 2 L 1 12 L 10 12 L 10 -8 L 7 -8 L 12 -14 L 3 4 Z"},
		{"points alone", "M 0 0 L 4 0 L 4 3 L 0 3 Z", waysOf(wayOf(0, 0, 4, 0, 4, 3, 0, 3)), "M 0 0 L 4 0 L 4 3 L 0 3 Z"},
		{"steps from point to point", "M 10 20 l 1 2 l 3 4 l -5 -6 l 0 0 Z", waysOf(wayOf(10, 20, 11, 22, 14, 26, 9, 20, 9, 20)), "M 10 20 L 11 22 L 14 26 L 9 20 L 9 20 Z"},
		{"small letters to the left and down", "M 5 7 h -6 v -8 h 0 v 0 Z", waysOf(wayOf(5, 7, -1, 7, -1, -1, -1, -1, -1, -1)), "M 5 7 L -1 7 L -1 -1 L -1 -1 L -1 -1 Z"},
		{"small letters behind great ones", "M 5 7 H 20 h 1 V 30 v 1 L 40 50 l 1 1 Z", waysOf(wayOf(5, 7, 20, 7, 21, 7, 21, 30, 21, 31, 40, 50, 41, 51)), "M 5 7 L 20 7 L 21 7 L 21 30 L 21 31 L 40 50 L 41 51 Z"},
		{"great letters behind small ones", "M 5 7 h 1 H 20 v 1 V 30 l 1 1 L 40 50 Z", waysOf(wayOf(5, 7, 6, 7, 20, 7, 20, 8, 20, 30, 21, 31, 40, 50)), "M 5 7 L 6 7 L 20 7 L 20 8 L 20 30 L 21 31 L 40 50 Z"},
		{"one point again and again", "M 3 3 L 3 3 h 0 V 3 l 0 0 H 3 Z", waysOf(wayOf(3, 3, 3, 3, 3, 3, 3, 3, 3, 3, 3, 3)), "M 3 3 L 3 3 L 3 3 L 3 3 L 3 3 L 3 3 Z"},
		{"a way that crosses itself", "M 0 0 L 2 2 L 2 0 L 0 2 Z", waysOf(wayOf(0, 0, 2, 2, 2, 0, 0, 2)), "M 0 0 L 2 2 L 2 0 L 0 2 Z"},
		{"the last point is the first one", "M 0 0 H 4 V 4 L 0 0 Z", waysOf(wayOf(0, 0, 4, 0, 4, 4, 0, 0)), "M 0 0 L 4 0 L 4 4 L 0 0 Z"},
		{"two ways", "M 0 0 H 1 V 1 Z M 5 5 H 6 V 6 Z", waysOf(wayOf(0, 0, 1, 0, 1, 1), wayOf(5, 5, 6, 5, 6, 6)), "M 0 0 L 1 0 L 1 1 Z M 5 5 L 6 5 L 6 6 Z"},
		{"a second way with small letters from its own beginning", "M 9 9 h 1 v 1 Z M -4 -5 h 1 v 1 Z", waysOf(wayOf(9, 9, 10, 9, 10, 10), wayOf(-4, -5, -3, -5, -3, -4)), "M 9 9 L 10 9 L 10 10 Z M -4 -5 L -3 -5 L -3 -4 Z"},
		{"a second way with great letters", "M 9 9 H 1 V 1 Z M -4 -5 V 1 H 1 Z", waysOf(wayOf(9, 9, 1, 9, 1, 1), wayOf(-4, -5, -4, 1, 1, 1)), "M 9 9 L 1 9 L 1 1 Z M -4 -5 L -4 1 L 1 1 Z"},
		{"one way twice", "M 1 1 h 2 v 2 Z M 1 1 h 2 v 2 Z", waysOf(wayOf(1, 1, 3, 1, 3, 3), wayOf(1, 1, 3, 1, 3, 3)), "M 1 1 L 3 1 L 3 3 Z M 1 1 L 3 1 L 3 3 Z"},
		{"MaxWays ways", "M 0 0 h 1 v 1 Z M 1 0 h 1 v 1 Z M 2 0 h 1 v 1 h -1 Z M 3 0 h 1 v 1 Z", waysOf(wayOf(0, 0, 1, 0, 1, 1), wayOf(1, 0, 2, 0, 2, 1), wayOf(2, 0, 3, 0, 3, 1, 2, 1), wayOf(3, 0, 4, 0, 4, 1)), "M 0 0 L 1 0 L 1 1 Z M 1 0 L 2 0 L 2 1 Z M 2 0 L 3 0 L 3 1 L 2 1 Z M 3 0 L 4 0 L 4 1 Z"},
		{"MaxCorners points", "M 0 0 h 10 v 9 h -2 v -7 h -2 v 7 h -2 v -7 h -2 v 7 h -2 Z", waysOf(comb(9)), plainPath(waysOf(comb(9)))},
		{"the corners of the grid", "M -1000 -1000 H 1000 V 1000 H -1000 Z", waysOf(wayOf(-far, -far, far, -far, far, far, -far, far)), "M -1000 -1000 L 1000 -1000 L 1000 1000 L -1000 1000 Z"},
		{"the corners of the grid by small letters", "M -1000 -1000 h 2000 v 2000 h -2000 Z", waysOf(wayOf(-far, -far, far, -far, far, far, -far, far)), "M -1000 -1000 L 1000 -1000 L 1000 1000 L -1000 1000 Z"},
		{"from corner to corner", "M 1000 1000 l -2000 -2000 l 2000 0 Z", waysOf(wayOf(far, far, -far, -far, far, -far)), "M 1000 1000 L -1000 -1000 L 1000 -1000 Z"},
		{"numbers below 0 alone", "M -1 -22 L -333 -999 H -4 v -1 Z", waysOf(wayOf(-1, -22, -333, -999, -4, -999, -4, -far)), "M -1 -22 L -333 -999 L -4 -999 L -4 -1000 Z"},
	}
}

func TestPathWrittenOut(t *testing.T) {
	for _, c := range pathRows() {
		wantParsed(t, c.why, c.path, c.ways)
		s, ok := impl.PrintPath(c.ways)
		wantText(t, c.why+": PrintPath", c.ways, s, ok, c.printed)
		wantParsed(t, c.why, c.printed, c.ways)
		if !impl.GoodWays(c.ways) {
			t.Errorf("%s: GoodWays %v: false", c.why, c.ways)
		}
	}
}

type faultRow struct {
	why, path   string
	code, place int
}

func faultRows() []faultRow {
	rows := []faultRow{
		{"no byte", "", impl.PaEmpty, 0},
		{"one byte too many", plainPath(waysOfLength(impl.MaxPath + 1)), impl.PaEmpty, 0},
		{"far too many bytes", strings.Repeat("M 0 0 H 1 V 1 Z ", 10000), impl.PaEmpty, 0},

		{"a blank alone", " ", impl.PaWord, 0}, {"a number at first", "0", impl.PaWord, 0}, {"another letter at first", "X 0 0 H 1 V 1 Z", impl.PaWord, 0}, {"a small M", "m 0 0 H 1 V 1 Z", impl.PaWord, 0}, {"a blank too many at the beginning", " M 0 0 H 1 V 1 Z", impl.PaWord, 0}, {"no blank behind M", "M0 0 H 1 V 1 Z", impl.PaWord, 0},
		{"another letter in the middle", "M 0 0 X 1 V 1 Z", impl.PaWord, 3}, {"a number too many for M", "M 0 0 0 H 1 V 1 Z", impl.PaWord, 3}, {"two blanks behind M's numbers", "M 0 0  H 1 V 1 Z", impl.PaWord, 3}, {"a number too many for H", "M 0 0 H 1 1 V 1 Z", impl.PaWord, 5}, {"a number too many for l", "M 0 0 l 1 1 1 V 1 Z", impl.PaWord, 6}, {"a number too many for v", "M 0 0 H 1 v 1 1 Z", impl.PaWord, 7},
		{"a small Z", "M 0 0 H 1 V 1 z", impl.PaWord, 7}, {"a blank too many at the end", "M 0 0 H 1 V 1 Z ", impl.PaWord, 8}, {"two blanks between two ways", "M 0 0 H 1 V 1 Z  M 0 0 H 1 V 1 Z", impl.PaWord, 8}, {"a number behind Z", "M 0 0 H 1 V 1 Z 0", impl.PaWord, 8}, {"another letter at the end", "M 0 0 H 1 V 1 Z X", impl.PaWord, 8}, {"a byte 10 at the end", "M 0 0 H 1 V 1 Z\n", impl.PaWord, 7}, {"another letter in the second way", "M 0 0 H 1 V 1 Z M 5 5 c 6 Z", impl.PaWord, 11}, {"a blank too many where the way is open", "M 0 0 H 1 ", impl.PaWord, 5},

		{"M alone", "M", impl.PaNumber, 1}, {"M with one number", "M 0", impl.PaNumber, 2}, {"M and a blank", "M ", impl.PaNumber, 1}, {"M, a number and a blank", "M 0 ", impl.PaNumber, 2}, {"two blanks behind M", "M  0 0 H 1 V 1 Z", impl.PaNumber, 1}, {"two blanks between two numbers", "M 0  0 H 1 V 1 Z", impl.PaNumber, 2},
		{"a letter for the first number", "M x 0 H 1 V 1 Z", impl.PaNumber, 1}, {"a letter for the second number", "M 0 x H 1 V 1 Z", impl.PaNumber, 2}, {"no number behind M, another word", "M H 1 V 1 Z", impl.PaNumber, 1}, {"one number behind M, another word", "M 0 H 1 V 1 Z", impl.PaNumber, 2}, {"M for a number", "M M 0 0", impl.PaNumber, 1}, {"Z for a number", "M 0 Z", impl.PaNumber, 2},
		{"H at the end", "M 0 0 H", impl.PaNumber, 4}, {"V at the end", "M 0 0 H 1 V", impl.PaNumber, 6}, {"h at the end", "M 0 0 h", impl.PaNumber, 4}, {"v at the end", "M 0 0 H 1 v", impl.PaNumber, 6}, {"L at the end", "M 0 0 L", impl.PaNumber, 4}, {"L with one number at the end", "M 0 0 L 1", impl.PaNumber, 5}, {"l at the end", "M 0 0 l", impl.PaNumber, 4}, {"l with one number at the end", "M 0 0 H 1 l 1", impl.PaNumber, 7}, {"H and a blank at the end", "M 0 0 H ", impl.PaNumber, 4},
		{"H and another word", "M 0 0 H V 1 Z", impl.PaNumber, 4}, {"v and Z", "M 0 0 H 1 v Z", impl.PaNumber, 6}, {"L with one number and Z", "M 0 0 H 1 L 1 Z", impl.PaNumber, 7}, {"l with one number and another word", "M 0 0 l 1 V 1 Z", impl.PaNumber, 5}, {"l and another word", "M 0 0 l V 1 Z", impl.PaNumber, 4},
		{"a comma between", "M 0,0 H 1 V 1 Z", impl.PaNumber, 1}, {"a tab between", "M 0\t0 H 1 V 1 Z", impl.PaNumber, 1}, {"no blank behind a number", "M 0 0H 1 V 1 Z", impl.PaNumber, 2}, {"no blank between a number and Z", "M 0 0 H 1 V 1Z", impl.PaNumber, 6}, {"a number that is too great", "M 0 0 H 10000 V 1 Z", impl.PaNumber, 4}, {"no number in the second way", "M 0 0 H 1 V 1 Z M 5 5 h x v 1 Z", impl.PaNumber, 12}, {"a second M alone", "M 0 0 H 1 V 1 Z M", impl.PaNumber, 9},

		{"M where a way is begun", "M 0 0 M 1 1 H 2 V 3 Z", impl.PaStart, 3}, {"M behind two points", "M 0 0 H 1 M 0 0", impl.PaStart, 5}, {"M behind three points", "M 0 0 H 1 V 1 M 0 0 H 1 V 1 Z", impl.PaStart, 7}, {"M at the end", "M 0 0 H 1 V 1 M", impl.PaStart, 7}, {"Z at first", "Z", impl.PaStart, 0}, {"Z twice", "M 0 0 H 1 V 1 Z Z", impl.PaStart, 8}, {"M behind a full way", pointsPath(impl.MaxCorners) + " M 0 0", impl.PaStart, 25},
		{"M in the last way", trianglePath(impl.MaxWays-1) + " M 0 0 M 1 1", impl.PaStart, 27}, {"Z behind all ways", trianglePath(impl.MaxWays) + " Z", impl.PaStart, 32}, {"H behind all ways", trianglePath(impl.MaxWays) + " H 1", impl.PaStart, 32},

		{"Z behind one point", "M 0 0 Z", impl.PaMany, 3}, {"Z behind two points", "M 0 0 H 1 Z", impl.PaMany, 5}, {"Z behind two points of two numbers", "M 0 0 l 1 1 Z", impl.PaMany, 6}, {"Z behind two points in the second way", "M 0 0 H 1 V 1 Z M 0 0 H 1 Z M 0 0 H 1 V 1 Z", impl.PaMany, 13}, {"Z behind one point in the last way", trianglePath(impl.MaxWays-1) + " M 0 0 Z", impl.PaMany, 27},
		{"one way too many", trianglePath(impl.MaxWays + 1), impl.PaMany, 32}, {"two ways too many", trianglePath(impl.MaxWays + 2), impl.PaMany, 32}, {"M alone behind all ways", trianglePath(impl.MaxWays) + " M", impl.PaMany, 32},
		{"one point too many", pointsPath(impl.MaxCorners+1) + " Z", impl.PaMany, 25}, {"two points too many", pointsPath(impl.MaxCorners+2) + " Z", impl.PaMany, 25}, {"a letter alone behind all points", pointsPath(impl.MaxCorners) + " L", impl.PaMany, 25}, {"one point too many in the second way", trianglePath(1) + " " + pointsPath(impl.MaxCorners+1) + " Z", impl.PaMany, 33},

		{"X beyond", "M 1001 0 H 1 V 1 Z", impl.PaRange, 2}, {"Y beyond", "M 0 1001 H 1 V 1 Z", impl.PaRange, 2}, {"X beyond below 0", "M -1001 0 H 1 V 1 Z", impl.PaRange, 2}, {"Y beyond below 0", "M 0 -1001 H 1 V 1 Z", impl.PaRange, 2}, {"both beyond", "M 9999 -9999", impl.PaRange, 2},
		{"H beyond", "M 0 0 H 1001 V 1 Z", impl.PaRange, 4}, {"V beyond", "M 0 0 H 1 V -1001 Z", impl.PaRange, 6}, {"L beyond in X", "M 0 0 L 1001 0 V 1 Z", impl.PaRange, 5}, {"L beyond in Y", "M 0 0 L 0 -1001 V 1 Z", impl.PaRange, 5}, {"h beyond", "M 1000 0 h 1 V 1 Z", impl.PaRange, 4}, {"h beyond below 0", "M -1000 0 h -1 V 1 Z", impl.PaRange, 4}, {"v beyond", "M 0 999 H 1 v 2 Z", impl.PaRange, 6}, {"v beyond below 0", "M 0 -999 H 1 v -2 Z", impl.PaRange, 6},
		{"l beyond in X", "M 999 0 H 0 l 1001 0 Z", impl.PaRange, 7}, {"l beyond in Y", "M 0 999 H 3 l 0 2 Z", impl.PaRange, 7}, {"the last point beyond", "M 0 0 H 1 V 1 Z M 0 0 H 1 h 1000 Z", impl.PaRange, 14}, {"beyond by all there is", "M 1000 1000 l 9999 9999", impl.PaRange, 5}, {"beyond on the other side", "M 1000 1000 l -9999 0", impl.PaRange, 5},

		{"M and its point alone", "M 0 0", impl.PaOpen, 3}, {"two points", "M 0 0 H 1", impl.PaOpen, 5}, {"three points", "M 0 0 H 1 V 1", impl.PaOpen, 7}, {"all points", pointsPath(impl.MaxCorners), impl.PaOpen, 25}, {"a second way of one point", "M 0 0 H 1 V 1 Z M 0 0", impl.PaOpen, 11}, {"a second way of three points", "M 0 0 H 1 V 1 Z M 0 0 H 1 l 1 1", impl.PaOpen, 16}, {"the last way", strings.TrimSuffix(trianglePath(impl.MaxWays), " Z"), impl.PaOpen, 31},
	}
	for _, letter := range "LlHVhvZ" {
		rows = append(rows,
			faultRow{"no M: " + string(letter), string(letter) + " 0 0", impl.PaStart, 0},
			faultRow{"no second M: " + string(letter), trianglePath(1) + " " + string(letter) + " 0 0", impl.PaStart, 8},
			faultRow{"no M in between: " + string(letter), trianglePath(2) + " " + string(letter) + " 0 " + trianglePath(1), impl.PaStart, 16},
		)
	}
	return rows
}

func TestFaultsWrittenOut(t *testing.T) {
	for _, c := range faultRows() {
		wantFault(t, c.why, c.path, c.code, c.place)
	}
}

// Two faults, of which the first one counts: at an earlier word, or looked for first at one word.
func TestTwoFaultsWrittenOut(t *testing.T) {
	for _, c := range []faultRow{
		{"too many bytes, and no word", strings.Repeat("X", impl.MaxPath+1), impl.PaEmpty, 0},
		{"too many bytes, and an open way", "M 0 0" + strings.Repeat(" h 1", impl.MaxPath), impl.PaEmpty, 0},
		{"no word, and no number", "M 0 0 X x V 1 Z", impl.PaWord, 3},
		{"no word ahead of M, and then all other faults", "x Z L 1001 0 M M", impl.PaWord, 0},
		{"no number, and no word", "M 0 x X", impl.PaNumber, 2},
		{"no number twice", "M x x", impl.PaNumber, 1},
		{"no number where X is beyond", "M 1001 x", impl.PaNumber, 2},
		{"a number missing where X is beyond", "M 1001", impl.PaNumber, 2},
		{"a number missing where l goes beyond in X", "M 1000 0 l 1", impl.PaNumber, 5},
		{"no number in Y where L is beyond in X", "M 0 0 L 1001 -0 Z", impl.PaNumber, 5},
		{"no number, and a way that is open", "M 0 0 H x", impl.PaNumber, 4},
		{"a number missing, and a way that is open", "M 0 0 H", impl.PaNumber, 4},
		{"no M, and no number", "L x 0", impl.PaStart, 0},
		{"no M, and a number missing", "H", impl.PaStart, 0},
		{"no M, and a point beyond", "L 1001 0", impl.PaStart, 0},
		{"no M, and a way of no point", "Z M", impl.PaStart, 0},
		{"a second M, and no number", "M 0 0 M x", impl.PaStart, 3},
		{"a second M where all ways are begun", trianglePath(impl.MaxWays-1) + " M 0 0 H 1 V 1 M 0 0", impl.PaStart, 31},
		{"no M where all ways are ended", trianglePath(impl.MaxWays) + " L", impl.PaStart, 32},
		{"a way too many, and no number", trianglePath(impl.MaxWays) + " M x", impl.PaMany, 32},
		{"a way too many, and a point beyond", trianglePath(impl.MaxWays) + " M 1001 0", impl.PaMany, 32},
		{"a way too many, that is open", trianglePath(impl.MaxWays) + " M 0 0", impl.PaMany, 32},
		{"a point too many, and no number", pointsPath(impl.MaxCorners) + " L x 0", impl.PaMany, 25},
		{"a point too many, beyond", pointsPath(impl.MaxCorners) + " L 1001 0", impl.PaMany, 25},
		{"a point too many, and a way that is open", pointsPath(impl.MaxCorners + 1), impl.PaMany, 25},
		{"too few points, and then no M", "M 0 0 Z Z", impl.PaMany, 3},
		{"too few points, and then no word", "M 0 0 H 1 Z X", impl.PaMany, 5},
		{"a point beyond, and too few points", "M 0 1001 Z", impl.PaRange, 2},
		{"a point beyond, and no number", "M 1001 0 H x", impl.PaRange, 2},
		{"a point beyond, and an open way", "M 0 0 H 1001", impl.PaRange, 4},
		{"a point beyond, from which one comes back", "M 1000 0 h 1 h -1 V 1 Z", impl.PaRange, 4},
		{"two points beyond", "M 1001 0 L 0 1001 Z", impl.PaRange, 2},
		{"an open way, and a number missing", "M 0 0 H 1 V", impl.PaNumber, 6},
		{"a blank at the beginning and at the end", " M 0 0 H 1 V 1 Z ", impl.PaWord, 0},
	} {
		wantFault(t, c.why, c.path, c.code, c.place)
	}
}

func TestEachCodeHasItsNumber(t *testing.T) {
	codes := []int{impl.PaEmpty, impl.PaWord, impl.PaNumber, impl.PaStart, impl.PaMany, impl.PaRange, impl.PaOpen}
	if !slices.Equal(codes, []int{1, 2, 3, 4, 5, 6, 7}) || impl.MaxPath != 400 || impl.MaxWays != 4 {
		t.Error(codes, impl.MaxPath, impl.MaxWays)
	}
	had := map[int]int{}
	for _, c := range faultRows() {
		had[checkPath(t, c.path)]++
	}
	for _, code := range codes {
		if had[code] < 3 {
			t.Error("faults by code:", had)
		}
	}
}

// isLetterAt tells what is looked for at a word of a good path: what stands there.
func isLetterAt(word string) bool {
	_, is := pathSteps[word]
	return is
}

// At each word of a good path another one that is wrong there: that is the fault, whatever follows.
func TestPathWithEachWordWrong(t *testing.T) {
	for _, c := range pathRows() {
		words := strings.Split(c.path, " ")
		with := func(at int, word string) string {
			return strings.Join(slices.Replace(slices.Clone(words), at, at+1, word), " ")
		}
		for at, word := range words {
			if !isLetterAt(word) {
				for _, wrong := range wrongNumberTexts() {
					if s := with(at, wrong.text); len(s) <= impl.MaxPath {
						wantFault(t, c.why+", "+wrong.why, s, impl.PaNumber, at)
					}
				}
				continue
			}
			for _, wrong := range wrongLetters() {
				wantFault(t, c.why+", "+wrong.why, with(at, wrong.text), impl.PaWord, at)
			}
			if word != "M" {
				wantFault(t, c.why+", M again", with(at, "M"), impl.PaStart, at)
				continue
			}
			for _, letter := range "LlHVhvZ" {
				wantFault(t, c.why+", no M", with(at, string(letter)), impl.PaStart, at)
			}
		}
	}
}

// A good path that is cut behind each of its words.
func TestPathCutAtEachWord(t *testing.T) {
	for _, c := range pathRows() {
		words := strings.Split(c.path, " ")
		for n := 1; n < len(words); n++ {
			s, rest := strings.Join(words[:n], " "), strings.Join(words[n:], " ")
			switch {
			case words[n] == "M":
				if checkPath(t, s) != 0 || checkPath(t, rest) != 0 {
					t.Fatalf("%s: ParsePath %q and %q: refused", c.why, s, rest)
				}
			case isLetterAt(words[n]):
				wantFault(t, c.why, s, impl.PaOpen, n)
				wantFault(t, c.why, s+" x", impl.PaWord, n)
				wantFault(t, c.why, rest, impl.PaStart, 0)
			default:
				wantFault(t, c.why, s, impl.PaNumber, n)
				wantFault(t, c.why, s+" x", impl.PaNumber, n)
				wantFault(t, c.why, rest, impl.PaWord, 0)
			}
		}
	}
}

// All paths of five words at most, of few words, and all that go on so from a point, till a way may be ended.
func TestAllSmallPaths(t *testing.T) {
	codes := map[int]int{}
	some := []string{"M", "l", "H", "Z", "0", "1001", ""}
	var longer func(s string, more int)
	longer = func(s string, more int) {
		codes[checkPath(t, s)]++
		for _, word := range some[:min(more, 1)*len(some)] {
			longer(s+" "+word, more-1)
		}
	}
	for _, word := range some {
		longer(word, 4)
	}
	longer("M 0 0", 5)
	longer("M 0 0 H 0 H 0", 4)
	for _, code := range []int{0, impl.PaWord, impl.PaNumber, impl.PaStart, impl.PaMany, impl.PaRange, impl.PaOpen} {
		if codes[code] < 2 {
			t.Error("paths by code:", codes)
		}
	}
}

// What may follow "M 0 0", in all ways of three more letters, each with its numbers.
func TestPathsOfAllLetters(t *testing.T) {
	codes := map[int]int{}
	tail := map[int]string{0: "", 1: " -3", 2: " 5 7"}
	for _, a := range lettersOfPaths {
		for _, b := range lettersOfPaths {
			for _, c := range lettersOfPaths {
				s := "M 8 9"
				for _, letter := range []rune{a, b, c} {
					s += " " + string(letter) + tail[pathSteps[string(letter)].numbers]
				}
				codes[checkPath(t, s)]++
				codes[checkPath(t, s+" Z")]++
			}
		}
	}
	if codes[0] < 200 || codes[impl.PaOpen] < 200 || codes[impl.PaStart] < 100 || codes[impl.PaMany] < 50 {
		t.Error("paths by code:", codes)
	}
}

// Ways told in words of all kinds, small and great letters by chance.
func TestSomePaths(t *testing.T) {
	r := fixed(220)
	codes, long := map[int]int{}, 0
	for range 4000 {
		l := someWalk(r, 1+r.IntN(impl.MaxWays), []int{3, 20, 99, far}[r.IntN(4)])
		if r.IntN(6) == 0 {
			l = someWays(r, impl.MaxWays, far)
		}
		s := somePath(r, l)
		if len(s) <= impl.MaxPath {
			wantParsed(t, "some path", s, l)
		} else {
			long++
		}
		codes[checkPath(t, s)]++
		// One word is another one, one more, or left out.
		words := strings.Split(s, " ")
		word := []string{"M", "L", "l", "H", "V", "h", "v", "Z", "0", "-1", "1001", "-2000", "10000", "x", ""}[r.IntN(15)]
		for _, many := range []int{0, 1} {
			at := r.IntN(len(words))
			codes[checkPath(t, strings.Join(slices.Replace(slices.Clone(words), at, at+many, word), " "))]++
			codes[checkPath(t, strings.Join(slices.Delete(slices.Clone(words), at, at+many), " "))]++
		}
	}
	for code := range 8 {
		if codes[code] < 50 {
			t.Error("paths by code:", codes)
		}
	}
	if long < 50 {
		t.Error("long ones:", long)
	}
}

// Texts one byte apart from good paths.
func TestPathTextsNear(t *testing.T) {
	codes := map[int]int{}
	for _, c := range pathRows() {
		if len(c.path) > 45 {
			continue
		}
		for _, near := range textsNear(c.path, allBytes()) {
			codes[checkPath(t, near)]++
		}
	}
	for _, code := range []int{0, impl.PaEmpty, impl.PaWord, impl.PaNumber, impl.PaStart, impl.PaMany, impl.PaRange, impl.PaOpen} {
		if codes[code] < 5 {
			t.Error("paths by code:", codes)
		}
	}
}

func TestMovePathWrittenOut(t *testing.T) {
	for _, c := range []struct {
		why, path string
		by        impl.Pt
		want      string
	}{
		{"to the right and up", "M 0 0 H 1 V 1 Z", pt(1, 2), "M 1 2 L 2 2 L 2 3 Z"},
		{"to the left and down", "M 0 0 H 1 V 1 Z", pt(-1, -2), "M -1 -2 L 0 -2 L 0 -1 Z"},
		{"not at all", "M 0 0 H 1 V 1 Z", pt(0, 0), "M 0 0 L 1 0 L 1 1 Z"},
		{"X alone", "M 5 7 v 1 h 1 Z", pt(10, 0), "M 15 7 L 15 8 L 16 8 Z"},
		{"Y alone", "M 5 7 v 1 h 1 Z", pt(0, 10), "M 5 17 L 5 18 L 6 18 Z"},
		{"two ways", "M 0 0 H 1 V 1 Z M 5 5 L 7 5 L 7 9 l -1 0 Z", pt(-3, 4), "M -3 4 L -2 4 L -2 5 Z M 2 9 L 4 9 L 4 13 L 3 13 Z"},
		{"to the edge", "M 0 0 H 1 V 1 Z", pt(999, 999), "M 999 999 L 1000 999 L 1000 1000 Z"},
		{"to the edge below 0", "M 0 0 H 1 V 1 Z", pt(-1000, -1000), "M -1000 -1000 L -999 -1000 L -999 -999 Z"},
		{"from edge to middle", "M 1000 1000 h -1 v -1 Z", pt(-1000, -1000), "M 0 0 L -1 0 L -1 -1 Z"},
	} {
		s, ok := impl.MovePath(c.path, c.by)
		wantText(t, c.why+": MovePath", []any{c.path, c.by}, s, ok, c.want)
	}
}

// MovePath against PrintPath of the ways that ParsePath tells, each one moved by MovePts.
func TestMovePathIsPrintPathOfEachWayMoved(t *testing.T) {
	r := fixed(221)
	told := map[bool]int{}
	for range 2000 {
		s := somePath(r, someWalk(r, 1+r.IntN(impl.MaxWays), []int{3, 20, 99, far}[r.IntN(4)]))
		by := somePt(r, []int{1, far, far}[r.IntN(3)])
		l, _, _, ok := impl.ParsePath(s)
		moved := [][]impl.Pt{}
		for _, way := range l {
			m, is := impl.MovePts(way, by)
			ok = ok && is
			moved = append(moved, m)
		}
		want, is := impl.PrintPath(moved)
		got, is2 := impl.MovePath(s, by)
		if is2 != (ok && is) || is2 && got != want || !is2 && got != "" {
			t.Fatalf("MovePath %q %v: %q %v, want %q %v", s, by, got, is2, want, ok && is)
		}
		told[checkMove(t, s, by)]++
	}
	if told[true] < 500 || told[false] < 300 {
		t.Error("told and not:", told)
	}
}

func TestCountInIsWhatParsePathTells(t *testing.T) {
	r := fixed(222)
	for ways := 1; ways <= impl.MaxWays; ways++ {
		for range 200 {
			s := somePath(r, someWalk(r, ways, 9))
			l, _, _, ok := impl.ParsePath(s)
			n, m, is := impl.CountIn(s)
			points := 0
			for _, way := range l {
				points += len(way)
			}
			// A way has a letter for each point, and its Z.
			if !is || !ok || n != len(l) || n != ways || m != points || m != lettersIn(s)-ways {
				t.Fatalf("CountIn %q: %d %d %v, want %d %d", s, n, m, is, len(l), points)
			}
		}
	}
}

func lettersIn(s string) int {
	many := 0
	for word := range strings.SplitSeq(s, " ") {
		if isLetterAt(word) {
			many++
		}
	}
	return many
}

func TestNumbersWrittenOut(t *testing.T) {
	for _, c := range []struct {
		n    int
		text string
	}{{0, "0"}, {1, "1"}, {-1, "-1"}, {9, "9"}, {-9, "-9"}, {10, "10"}, {-10, "-10"}, {99, "99"}, {100, "100"}, {-100, "-100"}, {1000, "1000"}, {-1000, "-1000"}, {1001, "1001"}, {5070, "5070"}, {-12, "-12"}, {9999, "9999"}, {-9999, "-9999"}} {
		s, ok := impl.NumberText(c.n)
		wantText(t, "NumberText", c.n, s, ok, c.text)
		n, ok := impl.ReadNumber(c.text)
		wantInt(t, "ReadNumber", c.text, n, ok, c.n)
	}
}

func TestAllNumbers(t *testing.T) {
	for n := -mostNumber; n <= mostNumber; n++ {
		s, ok := impl.NumberText(n)
		wantText(t, "NumberText", n, s, ok, fmt.Sprint(n))
		back, ok := impl.ReadNumber(s)
		wantInt(t, "ReadNumber", s, back, ok, n)
	}
}

func TestReadNumberWrongTexts(t *testing.T) {
	for _, c := range append(wrongNumberTexts(), wrongNumbersBeside()...) {
		if n, ok := impl.ReadNumber(c.text); ok || n != 0 || checkReadNumber(t, c.text) {
			t.Errorf("%s: ReadNumber %q: %d %v", c.why, c.text, n, ok)
		}
	}
}

func TestReadNumberAllSmallTexts(t *testing.T) {
	told, all := map[bool]int{}, []string{""}
	for from := 0; len(all[from]) < 6; from++ {
		for _, b := range "019-+ " {
			all = append(all, all[from]+string(b))
		}
	}
	for _, s := range all {
		told[checkReadNumber(t, s)]++
	}
	for _, s := range []string{"0", "7", "-7", "10", "-9999", "9999", "1000", "-1000"} {
		for _, near := range textsNear(s, allBytes()) {
			told[checkReadNumber(t, near)]++
		}
	}
	if told[true] < 150 || told[false] < 50000 {
		t.Error("read and not:", told)
	}
}
