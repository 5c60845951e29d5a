package tests

import (
	"fmt"
	"math"
	"math/rand/v2"
	"regexp"
	"slices"
	"strings"
	"testing"

	"loop.example/g00409/impl"
)

// mostNumber is the greatest number that NumberText tells.
const mostNumber = 9999

func waysOf(ways ...[]impl.Pt) [][]impl.Pt {
	return ways
}

func sameWays(a, b [][]impl.Pt) bool {
	return slices.EqualFunc(a, b, slices.Equal)
}

func cloneWays(l [][]impl.Pt) [][]impl.Pt {
	all := make([][]impl.Pt, len(l))
	for i, way := range l {
		all[i] = slices.Clone(way)
	}
	return all
}

// manyWays are n ways of as many points each.
func manyWays(n, points int) [][]impl.Pt {
	l := [][]impl.Pt{}
	for i := range n {
		l = append(l, longWay(points))
		l[i][0] = pt(-(i % 9), i%9)
	}
	return l
}

var shapeOfNumber = regexp.MustCompile(`^(0|-?[1-9][0-9]{0,3})$`)

func plainNumber(s string) (int, bool) {
	n := 0
	if !shapeOfNumber.MatchString(s) {
		return 0, false
	}
	if many, err := fmt.Sscanf(s, "%d", &n); many != 1 || err != nil {
		return 0, false
	}
	return n, true
}

// A step is a letter with numbers behind, and the point that they tell from where one is.
type pathStep struct {
	numbers int
	point   func(at impl.Pt, n []int) impl.Pt
}

var pathSteps = map[string]pathStep{
	"M": {2, func(at impl.Pt, n []int) impl.Pt { return pt(n[0], n[1]) }},
	"L": {2, func(at impl.Pt, n []int) impl.Pt { return pt(n[0], n[1]) }},
	"l": {2, func(at impl.Pt, n []int) impl.Pt { return pt(at.X+n[0], at.Y+n[1]) }},
	"H": {1, func(at impl.Pt, n []int) impl.Pt { return pt(n[0], at.Y) }},
	"V": {1, func(at impl.Pt, n []int) impl.Pt { return pt(at.X, n[0]) }},
	"h": {1, func(at impl.Pt, n []int) impl.Pt { return pt(at.X+n[0], at.Y) }},
	"v": {1, func(at impl.Pt, n []int) impl.Pt { return pt(at.X, at.Y+n[0]) }},
	"Z": {},
}

// lettersOfPaths are in an order of their own, which the map has not.
const lettersOfPaths = "MLlHVhvZ"

// plainLetter is the code of a word where a letter is looked for, so many ways are ended, and the one that is begun has so many points; 0 where it may stand there.
func plainLetter(word string, ended, points int) int {
	_, known := pathSteps[word]
	switch {
	case !known:
		return impl.PaWord
	case (word == "M") != (points == 0):
		return impl.PaStart
	case word == "M" && ended >= impl.MaxWays, word == "Z" && points < 3, word != "Z" && points >= impl.MaxCorners:
		return impl.PaMany
	}
	return 0
}

// plainParse goes word by word, and has what is looked for next in letter and numbers: the program reads a letter with all its numbers.
func plainParse(s string) ([][]impl.Pt, int, int) {
	if len(s) < 1 || len(s) > impl.MaxPath {
		return nil, impl.PaEmpty, 0
	}
	ways, way := [][]impl.Pt{}, []impl.Pt{}
	letter, numbers := "", []int{}
	words := strings.Split(s, " ")
	for place, word := range words {
		if letter == "" {
			if code := plainLetter(word, len(ways), len(way)); code != 0 {
				return nil, code, place
			}
			if letter = word; letter == "Z" {
				ways, way, letter = append(ways, way), nil, ""
			}
			continue
		}
		n, is := plainNumber(word)
		if !is {
			return nil, impl.PaNumber, place
		}
		numbers = append(numbers, n)
		if step := pathSteps[letter]; len(numbers) == step.numbers {
			at := pt(0, 0)
			if len(way) > 0 {
				at = way[len(way)-1]
			}
			p := step.point(at, numbers)
			if max(away(p.X), away(p.Y)) > far {
				return nil, impl.PaRange, place
			}
			way, letter, numbers = append(way, p), "", nil
		}
	}
	if letter != "" {
		return nil, impl.PaNumber, len(words)
	}
	if len(way) > 0 {
		return nil, impl.PaOpen, len(words)
	}
	return ways, 0, 0
}

func isPlainWays(l [][]impl.Pt) bool {
	good := len(l) > 0 && len(l) <= impl.MaxWays
	for _, way := range l {
		good = good && len(way) >= 3 && len(way) <= impl.MaxCorners
		for _, p := range way {
			good = good && p.X >= -far && p.X <= far && p.Y >= -far && p.Y <= far
		}
	}
	return good
}

func plainPath(l [][]impl.Pt) string {
	s := ""
	for _, way := range l {
		for i, p := range way {
			letter := "L"
			if i == 0 {
				letter = "M"
			}
			s += fmt.Sprintf("%s %d %d ", letter, p.X, p.Y)
		}
		s += "Z "
	}
	return strings.TrimSuffix(s, " ")
}

func wantWays(t *testing.T, what string, args any, l [][]impl.Pt, ok bool, want [][]impl.Pt) {
	t.Helper()
	if !ok || !sameWays(l, want) {
		t.Fatalf("%s %v: %v %v, want %v", what, args, l, ok, want)
	}
}

// wantFault wants a code and a place, and else the zero answer, also of what reads the path in its turn.
func wantFault(t *testing.T, why, s string, code, place int) {
	t.Helper()
	if l, c, at, ok := impl.ParsePath(s); ok || len(l) > 0 || c != code || at != place {
		t.Fatalf("%s: ParsePath %q: %v %d %d %v, want the code %d and the place %d", why, s, l, c, at, ok, code, place)
	}
	if n, m, ok := impl.CountIn(s); ok || n != 0 || m != 0 {
		t.Fatalf("%s: CountIn %q: %d %d %v, want the zero answer", why, s, n, m, ok)
	}
	if moved, ok := impl.MovePath(s, pt(0, 0)); ok || moved != "" {
		t.Fatalf("%s: MovePath %q: %q %v, want the zero answer", why, s, moved, ok)
	}
}

// wantParsed wants the ways of a path, and their numbers.
func wantParsed(t *testing.T, why, s string, want [][]impl.Pt) {
	t.Helper()
	l, code, place, ok := impl.ParsePath(s)
	wantWays(t, why+": ParsePath", s, l, ok, want)
	if code != 0 || place != 0 {
		t.Fatalf("%s: ParsePath %q: the code %d and the place %d", why, s, code, place)
	}
	points := 0
	for _, way := range want {
		points += len(way)
	}
	n, m, ok := impl.CountIn(s)
	wantInts(t, why+": CountIn", s, []int{n, m}, ok, []int{len(want), points})
}

// checkPath wants the ways of a path, or its fault; it answers the code.
func checkPath(t *testing.T, s string) int {
	t.Helper()
	ways, code, place := plainParse(s)
	if code != 0 {
		wantFault(t, "a fault", s, code, place)
		return code
	}
	wantParsed(t, "a path", s, ways)
	checkWays(t, ways)
	return 0
}

// checkWays wants the path of ways, or the zero answer where they are not good, or it is too long; it answers whether it is told.
func checkWays(t *testing.T, l [][]impl.Pt) bool {
	t.Helper()
	good := isPlainWays(l)
	if impl.GoodWays(l) != good {
		t.Fatalf("GoodWays %v: not %v", l, good)
	}
	s, ok := impl.PrintPath(l)
	want := plainPath(l)
	if !good || len(want) > impl.MaxPath {
		if ok || s != "" {
			t.Fatalf("PrintPath %v: %q %v, want the zero answer", l, s, ok)
		}
		return false
	}
	wantText(t, "PrintPath", l, s, ok, want)
	return true
}

func plainMovedWays(l [][]impl.Pt, by impl.Pt) [][]impl.Pt {
	moved := cloneWays(l)
	for _, way := range moved {
		for i := range way {
			way[i].X += by.X
			way[i].Y += by.Y
		}
	}
	return moved
}

// checkMove wants the path of all ways moved, or the zero answer where there is none; it answers whether it is told.
func checkMove(t *testing.T, s string, by impl.Pt) bool {
	t.Helper()
	ways, code, _ := plainParse(s)
	moved := plainMovedWays(ways, by)
	told, ok := impl.MovePath(s, by)
	// A point beyond the grid moves nothing; far ones might come round to the grid again.
	if code != 0 || max(by.X, by.Y) > far || min(by.X, by.Y) < -far || !isPlainWays(moved) || len(plainPath(moved)) > impl.MaxPath {
		if ok || told != "" {
			t.Fatalf("MovePath %q %v: %q %v, want the zero answer", s, by, told, ok)
		}
		return false
	}
	wantText(t, "MovePath", []any{s, by}, told, ok, plainPath(moved))
	return true
}

// checkReadNumber wants the number with a text, or the zero answer where there is none; it answers whether it is told.
func checkReadNumber(t *testing.T, s string) bool {
	t.Helper()
	n, ok := impl.ReadNumber(s)
	want, told := plainNumber(s)
	if n != want || ok != told {
		t.Fatalf("ReadNumber %q: %d %v, want %d %v", s, n, ok, want, told)
	}
	return told
}

// trianglePath has n ways, of eight words each.
func trianglePath(n int) string {
	return strings.TrimSuffix(strings.Repeat("M 0 0 H 1 V 1 Z ", n), " ")
}

// pointsPath begins a way and gives it n points, with 3 words and two more for each but the first one; it does not end it.
func pointsPath(n int) string {
	return "M 0 0" + strings.Repeat(" h 1", n-1)
}

// waysOfLength have a printed path of n bytes, from 295 to 679: they are MaxWays of MaxCorners points, that are 0, 0 where n is the least one.
func waysOfLength(n int) [][]impl.Pt {
	l := manyWays(impl.MaxWays, impl.MaxCorners)
	more := n - 295
	for _, way := range l {
		for i := range way {
			way[i] = pt(widened(min(more, 4)), 0)
			more -= min(more, 4)
			way[i].Y = widened(min(more, 4))
			more -= min(more, 4)
		}
	}
	return l
}

// widened has so many bytes more than 0 has.
func widened(more int) int {
	return []int{0, -1, -10, -100, -1000}[more]
}

// someWays are n ways of some points within far.
func someWays(r *rand.Rand, n, far int) [][]impl.Pt {
	l := [][]impl.Pt{}
	for range n {
		l = append(l, somePts(r, 3+r.IntN(impl.MaxCorners-2), far))
	}
	return l
}

// somePath tells ways in words of all kinds: some small letters, some great ones.
func somePath(r *rand.Rand, l [][]impl.Pt) string {
	words := []string{}
	for _, way := range l {
		for i, p := range way {
			if i == 0 {
				words = append(words, fmt.Sprintf("M %d %d", p.X, p.Y))
				continue
			}
			words = append(words, someStep(r, way[i-1], p))
		}
		words = append(words, "Z")
	}
	return strings.Join(words, " ")
}

func someStep(r *rand.Rand, from, to impl.Pt) string {
	can := []string{fmt.Sprintf("L %d %d", to.X, to.Y), fmt.Sprintf("l %d %d", to.X-from.X, to.Y-from.Y)}
	if from.Y == to.Y {
		can = append(can, fmt.Sprintf("H %d", to.X), fmt.Sprintf("h %d", to.X-from.X))
	}
	if from.X == to.X {
		can = append(can, fmt.Sprintf("V %d", to.Y), fmt.Sprintf("v %d", to.Y-from.Y))
	}
	return can[r.IntN(len(can))]
}

// someWalk is a path of upright and level steps for the most part, as few words do for.
func someWalk(r *rand.Rand, n, far int) [][]impl.Pt {
	l := someWays(r, n, far)
	for _, way := range l {
		for i := 1; i < len(way); i++ {
			switch r.IntN(5) {
			case 0, 1:
				way[i].Y = way[i-1].Y
			case 2, 3:
				way[i].X = way[i-1].X
			}
		}
	}
	return l
}

// wrongNumberTexts are those that are just not read.
func wrongNumberTexts() []wrongText {
	return []wrongText{
		{"nothing", ""}, {"a sign alone", "-"}, {"another sign alone", "+"}, {"a sign ahead", "+1"}, {"a sign ahead of 0", "+0"}, {"0 below 0", "-0"}, {"two noughts below 0", "-00"}, {"two signs", "--1"}, {"two signs, unlike", "-+1"}, {"two signs, the other way round", "+-1"}, {"a sign behind", "1-"}, {"a sign within", "1-1"},
		{"a needless nought", "01"}, {"two noughts", "00"}, {"a needless nought below 0", "-01"}, {"three needless noughts", "0001"}, {"many noughts", strings.Repeat("0", 300)}, {"a needless nought ahead of four digits", "01234"},
		{"a number too great", "10000"}, {"a number too great below 0", "-10000"}, {"five digits", "12345"}, {"a number that is too great with its nought", "99990"}, {"the greatest one and a nought below 0", "-99990"},
		{"the greatest int", "9223372036854775807"}, {"a number too great for an int", "9223372036854775808"}, {"the least int", "-9223372036854775808"}, {"a number too far for an int", "-9223372036854775809"}, {"a number that would wrap round to 0", "18446744073709551616"}, {"a number that would wrap round to 1", "18446744073709551617"}, {"a number that would wrap round to -1", "18446744073709551615"}, {"a number of 32 bits that would wrap round", "4294967297"}, {"many digits", strings.Repeat("9", 3000)}, {"many digits below 0", "-1" + strings.Repeat("0", 3000)},
		{"a tab ahead", "\t1"}, {"a byte 10 behind", "1\n"}, {"a byte 13 behind", "1\r"}, {"a byte 0", "1\x00"}, {"a byte 0 ahead", "\x001"}, {"a comma", "1,"}, {"a full stop", "1."}, {"parts of one", "1.0"}, {"a power", "1e1"}, {"digits to 16", "0x1"}, {"a digit to 16", "a"}, {"digits to 8", "0o1"}, {"digits with a stroke", "1_0"}, {"marks about it", "\"1\""}, {"brackets", "(1)"}, {"a fraction", "1/2"},
		{"a letter", "x"}, {"a word's letter", "M"}, {"a word's small letter", "h"}, {"a letter behind", "1Z"}, {"a letter ahead", "H1"}, {"the byte ahead of 0", "/"}, {"the byte behind 9", ":"}, {"a word", "one"}, {"no number", "NaN"}, {"what has no end", "Inf"},
		{"a digit that is not plain", "\uff11"}, {"a digit that is not plain behind one that is", "1\u0663"}, {"a sign that is not plain", "\u22121"}, {"a letter that is not plain", "\u00e9"}, {"a blank that is not plain", "1\u00a0"}, {"a mark that is not seen", "\ufeff1"}, {"a half", "\u00bd"}, {"a letter that is a 1 in its last byte", "\u0131"}, {"a byte of no letter", "1\xff"}, {"half a letter", "\xc31"}, {"a byte of 177: a 1 and 128", "\xb1"}, {"a sign and 128", "\xad1"},
	}
}

// wrongNumbersBeside are those that have blanks, so that in a path they are no one word.
func wrongNumbersBeside() []wrongText {
	return []wrongText{{"a blank ahead", " 1"}, {"a blank behind", "1 "}, {"a blank within", "1 1"}, {"a blank behind the sign", "- 1"}, {"a blank alone", " "}, {"blanks alone", "   "}}
}

// wrongLetters are no words of a path.
func wrongLetters() []wrongText {
	return []wrongText{
		{"nothing", ""}, {"a small M", "m"}, {"a small Z", "z"}, {"another letter", "X"}, {"another small letter", "x"}, {"the letter of a curve", "C"}, {"the letter ahead of M", "K"}, {"the letter behind M", "N"}, {"the letter I", "I"}, {"the letter i", "i"}, {"a number", "0"}, {"a number below 0", "-1"}, {"a number of one digit", "1"},
		{"two letters", "MM"}, {"two letters of words", "HV"}, {"a letter and a number", "M0"}, {"a letter and a comma", "M,"}, {"a letter and a tab", "M\t"}, {"a letter and a byte 10", "Z\n"}, {"a letter and a byte 0", "L\x00"}, {"a tab", "\t"}, {"a byte 10", "\n"}, {"a byte 0", "\x00"}, {"all letters", lettersOfPaths}, {"a word", "Move"},
		{"a letter that is not plain", "\u00e9"}, {"one that looks like M", "\u041c"}, {"one that looks like H", "\u041d"}, {"a wide M", "\uff2d"}, {"M with a mark above", "M\u0301"}, {"M and 128", "\xcd"}, {"a letter that is M in its last byte", "\u014d"}, {"half a letter", "\xc3"}, {"a mark that is not seen ahead of M", "\ufeffM"},
	}
}

// edgeWays are good, and as few, as many, as near and as far as may be.
func edgeWays() [][][]impl.Pt {
	corners := wayOf(-far, -far, far, -far, far, far, -far, far)
	return [][][]impl.Pt{
		waysOf(wayOf(0, 0, 1, 0, 1, 1)), waysOf(wayOf(0, 0, 0, 0, 0, 0)), waysOf(wayOf(-1, -1, -2, -1, -1, -2)), waysOf(corners), waysOf(corners[:3]), waysOf(backwards(corners)), waysOf(longWay(impl.MaxCorners)), waysOf(make([]impl.Pt, impl.MaxCorners)),
		waysOf(corners, corners), waysOf(corners, corners[1:], corners[:3], corners), manyWays(impl.MaxWays, 3), manyWays(impl.MaxWays, impl.MaxCorners), manyWays(2, impl.MaxCorners), waysOf(comb(9), star(), wayOf(0, 0, 1, 0, 0, 1)),
		waysOf(slices.Repeat(corners, 3)), waysOf(slices.Repeat(corners, 3), slices.Repeat(corners, 3)), waysOfLength(impl.MaxPath), waysOfLength(impl.MaxPath - 1), waysOfLength(295),
	}
}

// wrongWaysLists are not good: too few or too many, or one of them is none.
func wrongWaysLists() [][][]impl.Pt {
	all := [][][]impl.Pt{nil, {}, manyWays(impl.MaxWays+1, 3), manyWays(impl.MaxWays+1, impl.MaxCorners), manyWays(2*impl.MaxWays, 3), manyWays(3000, 3), make([][]impl.Pt, 1), make([][]impl.Pt, impl.MaxWays), make([][]impl.Pt, 3000)}
	for _, wrong := range wrongWays() {
		all = append(all, waysOf(wrong), waysOf(wrong, longWay(3)), waysOf(longWay(3), wrong), append(manyWays(impl.MaxWays-1, 4), wrong))
	}
	return all
}

// wrongMoves are points beyond the grid, also such as would come round to 0.
func wrongMoves() []impl.Pt {
	return append(beyondPts(), pt(math.MinInt, math.MinInt), pt(math.MaxInt, 0), pt(0, math.MaxInt), pt(math.MinInt, 0), pt(0, math.MinInt), pt(math.MaxInt, math.MinInt))
}
