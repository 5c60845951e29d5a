package tests

import (
	"fmt"
	"math"
	"slices"
	"strings"
	"testing"

	"loop.example/g00409/impl"
)

// Ways whose printed path has each number of bytes, up to MaxPath and beyond.
func TestPathsByLength(t *testing.T) {
	for n := 295; n <= 679; n++ {
		l := waysOfLength(n)
		s := plainPath(l)
		if len(s) != n {
			t.Fatalf("%d bytes of %d", len(s), n)
		}
		if checkWays(t, l) != (n <= impl.MaxPath) {
			t.Fatalf("PrintPath of %d bytes: not %v", n, n <= impl.MaxPath)
		}
		if n <= impl.MaxPath {
			wantParsed(t, "a long path", s, l)
		} else {
			wantFault(t, "a path that is too long", s, impl.PaEmpty, 0)
		}
	}
}

// Bytes are counted, whatever they are: paths of MaxPath have the fault that they have, those of one more are PaEmpty.
func TestFaultsByLength(t *testing.T) {
	fill := func(s, by string) string {
		for len(s)+len(by) <= impl.MaxPath {
			s += by
		}
		return s
	}
	for _, c := range []faultRow{
		{"letters", strings.Repeat("X", impl.MaxPath), impl.PaWord, 0},
		{"one letter, and no blank", strings.Repeat("M", impl.MaxPath), impl.PaWord, 0},
		{"blanks", strings.Repeat(" ", impl.MaxPath), impl.PaWord, 0},
		{"bytes of no letter", strings.Repeat("\xff", impl.MaxPath), impl.PaWord, 0},
		{"letters that are not plain", strings.Repeat("\u00e9", impl.MaxPath/2), impl.PaWord, 0},
		{"digits", "M " + strings.Repeat("1", impl.MaxPath-2), impl.PaNumber, 1},
		{"digits behind a sign", "M 0 -" + strings.Repeat("9", impl.MaxPath-5), impl.PaNumber, 2},
		{"noughts", "M 0 0 H " + strings.Repeat("0", impl.MaxPath-8), impl.PaNumber, 4},
		{"words of M", fill("M 0", " M"), impl.PaNumber, 2},
		{"blanks behind a path", fill("M 0 0 H 1 V 1 Z", " "), impl.PaWord, 8},
		{"letters behind a path", fill("M 0 0 H 1 V 1 Z Z", "Z"), impl.PaWord, 8},
		{"words of Z", fill("M 0 0 H 1 V 1 Z", " Z"), impl.PaStart, 8},
		{"points", fill("M 0 0", " h 1"), impl.PaMany, 25},
		{"ways", fill("M 0 0 H 1 V 1 Z", " M 0 0 H 1 V 1 Z"), impl.PaMany, 32},
	} {
		wantFault(t, c.why, c.path, c.code, c.place)
		if len(c.path) > impl.MaxPath {
			t.Fatalf("%s: %d bytes", c.why, len(c.path))
		}
		for len(c.path) <= impl.MaxPath {
			c.path += "Z"
		}
		wantFault(t, c.why, c.path, impl.PaEmpty, 0)
	}
	open := strings.TrimSuffix(plainPath(waysOfLength(impl.MaxPath+2)), " Z")
	wantFault(t, "an open way of MaxPath bytes", open, impl.PaOpen, strings.Count(open, " ")+1)
	wantFault(t, "an open way of one byte more", strings.TrimSuffix(plainPath(waysOfLength(impl.MaxPath+3)), " Z"), impl.PaEmpty, 0)
}

// The path's own bytes count, and for PrintPath those of what is printed: small letters may have more, H and V fewer.
func TestPathsThatArePrintedShorterOrLonger(t *testing.T) {
	way := "M 0 0" + strings.TrimSuffix(strings.Repeat(" l 1000 1000 l -1000 -1000", 6), " l -1000 -1000") + " Z"
	printed := slices.Repeat(wayOf(0, 0, far, far), 6)
	two, three := strings.Join([]string{way, way}, " "), strings.Join([]string{way, way, way}, " ")
	if len(two) > impl.MaxPath || len(three) <= impl.MaxPath || len(plainPath(waysOf(printed, printed, printed))) > impl.MaxPath {
		t.Fatalf("%d and %d bytes", len(two), len(three))
	}
	wantParsed(t, "more bytes than are printed", two, waysOf(printed, printed))
	wantFault(t, "more bytes than may be, though fewer are printed", three, impl.PaEmpty, 0)
	for n := 1; n <= impl.MaxWays; n++ {
		level := strings.TrimSuffix(strings.Repeat("M -999 -999 h 1 h 1 h 1 h 1 h 1 h 1 h 1 h 1 h 1 h 1 h 1 Z ", n), " ")
		l := [][]impl.Pt{}
		for range n {
			way := []impl.Pt{}
			for i := range impl.MaxCorners {
				way = append(way, pt(-999+i, -999))
			}
			l = append(l, way)
		}
		wantParsed(t, "fewer bytes than are printed", level, l)
		told := len(plainPath(l)) <= impl.MaxPath
		if checkWays(t, l) != told || checkMove(t, level, pt(0, 0)) != told || told != (n <= 2) {
			t.Fatalf("%d ways: printed with %d bytes, %v", n, len(plainPath(l)), told)
		}
		// Moved to where numbers have fewer bytes, all is told again.
		if told := checkMove(t, level, pt(999, 999)); !told {
			t.Fatalf("%q, moved to 0, 0: refused", level)
		}
	}
}

// Of 96 numbers that are moved by 91 those that are 0 have a byte more, and those that are 9 have two more.
func TestMovedPathsByLength(t *testing.T) {
	for nines := range 20 {
		l := waysOfLength(295)
		for i := range nines {
			l[i%impl.MaxWays][i/impl.MaxWays].X = 9
		}
		s := plainPath(l)
		good := 295+96+nines <= impl.MaxPath
		if len(s) != 295 || checkMove(t, s, pt(91, 91)) != good {
			t.Fatalf("MovePath %q: not %v", s, good)
		}
		told, ok := impl.MovePath(s, pt(91, 91))
		if ok != good || good && len(told) != 295+96+nines {
			t.Fatalf("MovePath %q: %d bytes, %v", s, len(told), ok)
		}
		if !checkMove(t, s, pt(90, 90)) || checkMove(t, s, pt(-9, -901)) {
			t.Fatalf("MovePath %q by less, or by more: not as said", s)
		}
	}
}

func TestPathsByWays(t *testing.T) {
	for n := range impl.MaxWays + 4 {
		good := n >= 1 && n <= impl.MaxWays
		for _, points := range []int{3, 4, impl.MaxCorners} {
			if checkWays(t, manyWays(n, points)) != good {
				t.Fatalf("PrintPath of %d ways of %d points: not %v", n, points, good)
			}
		}
		if s := trianglePath(n); (checkPath(t, s) == 0) != good {
			t.Fatalf("ParsePath %q: not %v", s, good)
		}
	}
}

func TestPathsByPoints(t *testing.T) {
	for n := range impl.MaxCorners + 5 {
		good := n >= 3 && n <= impl.MaxCorners
		for _, l := range [][][]impl.Pt{waysOf(longWay(n)), waysOf(make([]impl.Pt, n)), waysOf(longWay(n), longWay(3)), waysOf(longWay(5), longWay(n)), waysOf(longWay(3), longWay(n), longWay(3), longWay(n))} {
			if checkWays(t, l) != good {
				t.Fatalf("PrintPath of ways of %d points: not %v", n, good)
			}
		}
		if n == 0 {
			continue
		}
		for _, ahead := range []string{"", trianglePath(1) + " ", trianglePath(impl.MaxWays-1) + " "} {
			place := strings.Count(ahead, " ")
			s := ahead + pointsPath(n)
			switch {
			case n > impl.MaxCorners:
				wantFault(t, "too many points", s, impl.PaMany, place+25)
				wantFault(t, "too many points", s+" Z", impl.PaMany, place+25)
			case n < 3:
				wantFault(t, "too few points", s+" Z", impl.PaMany, place+2*n+1)
				wantFault(t, "an open way", s, impl.PaOpen, place+2*n+1)
			default:
				wantFault(t, "an open way", s, impl.PaOpen, place+2*n+1)
				if checkPath(t, s+" Z") != 0 {
					t.Fatalf("ParsePath %q: refused", s+" Z")
				}
			}
		}
	}
}

// The thirteenth point by each letter, with good numbers, with none, and beyond.
func TestOnePointTooManyByEachLetter(t *testing.T) {
	for _, letter := range "LlHVhv" {
		for _, numbers := range []string{"", " 1", " 1 1", " 1001", " 1001 1001", " x", " "} {
			s := pointsPath(impl.MaxCorners) + " " + string(letter) + numbers
			wantFault(t, "a point too many", s, impl.PaMany, 25)
			wantFault(t, "a point too many", s+" Z", impl.PaMany, 25)
		}
	}
}

// Numbers at the grid's edge and one beyond, by each letter, from many places.
func TestPathsByNumbers(t *testing.T) {
	from := []int{-far, -far + 1, -7, 0, 1, far - 1, far}
	for _, x := range from {
		for _, y := range from {
			for _, n := range []int{-far - 1, -far, -far + 1, -1, 0, 1, far - 1, far, far + 1, 2 * far, -2 * far, 2*far + 1, mostNumber, -mostNumber} {
				for _, c := range []struct {
					letter string
					at     impl.Pt
				}{{"H", pt(n, y)}, {"V", pt(x, n)}, {"h", pt(x+n, y)}, {"v", pt(x, y+n)}} {
					s := fmt.Sprintf("M %d %d %s %d", x, y, c.letter, n)
					wantReached(t, s, wayOf(x, y, c.at.X, c.at.Y), 4)
				}
				wantReached(t, fmt.Sprintf("M %d %d L %d %d", x, y, n, y), wayOf(x, y, n, y), 5)
				wantReached(t, fmt.Sprintf("M %d %d L %d %d", x, y, x, n), wayOf(x, y, x, n), 5)
				wantReached(t, fmt.Sprintf("M %d %d l %d 0", x, y, n), wayOf(x, y, x+n, y), 5)
				wantReached(t, fmt.Sprintf("M %d %d l 0 %d", x, y, n), wayOf(x, y, x, y+n), 5)
				wantReached(t, fmt.Sprintf("M %d %d l %d %d", x, y, n, -n), wayOf(x, y, x+n, y-n), 5)
			}
		}
	}
}

// wantReached wants a way of two points, with the second one again, or PaRange where that one is beyond.
func wantReached(t *testing.T, s string, way []impl.Pt, place int) {
	t.Helper()
	if !impl.GoodPt(way[1]) {
		wantFault(t, "beyond", s, impl.PaRange, place)
		wantFault(t, "beyond", s+" h 0 Z", impl.PaRange, place)
		return
	}
	wantParsed(t, "within", s+" h 0 Z", waysOf(append(way, way[1])))
	wantParsed(t, "within", s+" l 0 0 v 0 Z", waysOf(append(way, way[1], way[1])))
}

// All small steps to the right and up, from near both edges.
func TestPathsByEachStep(t *testing.T) {
	for n := -2*far - 3; n <= 2*far+3; n++ {
		for _, at := range []int{-far, 0, far} {
			wantReached(t, fmt.Sprintf("M %d 0 h %d", at, n), wayOf(at, 0, at+n, 0), 4)
			wantReached(t, fmt.Sprintf("M 0 %d v %d", at, n), wayOf(0, at, 0, at+n), 4)
			wantReached(t, fmt.Sprintf("M %d 3 H %d", at, n), wayOf(at, 3, n, 3), 4)
			wantReached(t, fmt.Sprintf("M 3 %d V %d", at, n), wayOf(3, at, 3, n), 4)
		}
	}
}

func TestGoodWays(t *testing.T) {
	for _, l := range edgeWays() {
		if !impl.GoodWays(l) || !isPlainWays(l) {
			t.Errorf("GoodWays %v: false", l)
		}
		checkWays(t, l)
	}
	for _, l := range wrongWaysLists() {
		if impl.GoodWays(l) || checkWays(t, l) {
			t.Errorf("GoodWays %v: true", l)
		}
	}
}

// A way with a point beyond the grid, at each place among others.
func TestGoodWaysWithOneBeyond(t *testing.T) {
	eachWayWithOneBeyond(func(l []impl.Pt, at int) {
		for n := 1; n <= impl.MaxWays; n++ {
			for i := range n {
				ways := manyWays(n, 3)
				ways[i] = l
				if checkWays(t, ways) {
					t.Fatalf("PrintPath %v: told", ways)
				}
			}
		}
	})
}

// A way that is not good, at each place among others: too few points, too many, none.
func TestGoodWaysWithOneThatIsNone(t *testing.T) {
	for n := 1; n <= impl.MaxWays; n++ {
		for at := range n {
			for _, points := range []int{0, 1, 2, impl.MaxCorners + 1, 40} {
				l := manyWays(n, 3)
				l[at] = longWay(points)
				if checkWays(t, l) {
					t.Fatalf("PrintPath %v: told", l)
				}
			}
		}
	}
}

func TestMovePathLimits(t *testing.T) {
	s := "M 0 0 H 1 V 1 Z"
	for n := -far - 5; n <= far+5; n++ {
		good := n >= -far && n <= far-1
		if checkMove(t, s, pt(n, 0)) != good || checkMove(t, s, pt(0, n)) != good || checkMove(t, s, pt(n, n)) != good {
			t.Fatalf("MovePath %q by %d: not %v", s, n, good)
		}
	}
	for _, by := range wrongMoves() {
		for _, s := range []string{s, "M 1000 1000 h -1 v -1 Z", "M -1000 -1000 h 1 v 1 Z"} {
			if checkMove(t, s, by) {
				t.Fatalf("MovePath %q by %v: told", s, by)
			}
		}
	}
	// One point of the last way goes beyond.
	two := "M 0 0 h 1 v 1 Z M -5 -5 h 1 V 700 Z"
	for n := -far; n <= far; n++ {
		if good := n <= 300 && n >= -995; checkMove(t, two, pt(0, n)) != good {
			t.Fatalf("MovePath %q by %d: not %v", two, n, good)
		}
	}
	for _, c := range faultRows() {
		for _, by := range wayOf(0, 0, 1, 1, -1000, 1000, 1001, 0) {
			if checkMove(t, c.path, by) {
				t.Errorf("%s: MovePath %q: told", c.why, c.path)
			}
		}
	}
}

func TestNumberLimits(t *testing.T) {
	for n := -mostNumber - 2000; n <= mostNumber+2000; n++ {
		good := n >= -mostNumber && n <= mostNumber
		s, ok := impl.NumberText(n)
		if ok != good || good && s != fmt.Sprint(n) || !good && s != "" {
			t.Fatalf("NumberText %d: %q %v, want %v", n, s, ok, good)
		}
		if checkReadNumber(t, fmt.Sprint(n)) != good || checkReadNumber(t, fmt.Sprint("0", n)) || n >= 0 && checkReadNumber(t, fmt.Sprint("+", n)) || n <= 0 && checkReadNumber(t, fmt.Sprint("-", n)) {
			t.Fatalf("ReadNumber of %d: not %v", n, good)
		}
	}
	for _, n := range []int{math.MinInt, math.MinInt + 1, math.MaxInt, math.MaxInt - 1, 1 << 32, -1 << 32, 1<<32 + 1, 1 << 62, -1 << 62, 1000000, -1000000} {
		if s, ok := impl.NumberText(n); ok || s != "" || checkReadNumber(t, fmt.Sprint(n)) {
			t.Errorf("NumberText %d: %q %v", n, s, ok)
		}
	}
	// Digits too many that would come round to a small number.
	for n := range uint64(50) {
		for _, high := range []string{"1844674407370955", "42949", "1000000000000000000000000", "-1844674407370955"} {
			if checkReadNumber(t, fmt.Sprintf("%s%04d", high, 1616+n)) || checkReadNumber(t, fmt.Sprintf("%s%05d", high, 67296+n)) {
				t.Fatalf("ReadNumber of %s and more: told", high)
			}
		}
	}
}
