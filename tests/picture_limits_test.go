package tests

import (
	"slices"
	"strings"
	"testing"

	"loop.example/g00409/impl"
)

type longDrawing struct {
	why  string
	ways [][]impl.Pt
	want drawn
}

// longDrawings have, at longSquare, sums of shares at MaxLimbs limbs and beyond, in the end and on the way, and shares whose byte has something too long on the way.
func longDrawings() []longDrawing {
	l := longWays()
	a, b, c := l[0], l[1], l[2]
	just := withPt(c, 9, pt(500, 684))
	return []longDrawing{
		{"one way", waysOf(a), allDrawn},
		{"another one", waysOf(b), allDrawn},
		{"a third one", waysOf(c), allDrawn},
		{"two ways", waysOf(a, b), allDrawn},
		{"two others", waysOf(c, b), allDrawn},
		{"all, too long", waysOf(a, b, c), nothingDrawn},
		{"all, in another order", waysOf(c, a, b), nothingDrawn},
		{"all, one of them turned round", waysOf(a, backwards(b), c), nothingDrawn},
		{"all, with one point less", waysOf(a, b, c[:11]), allDrawn},
		{"all, with another point less", waysOf(a, b, c[1:]), allDrawn},
		{"all, with one point less, one of them turned round", waysOf(a, backwards(b), c[:11]), allDrawn},
		{"too long behind a way that is far away", waysOf(wayOf(500, 0, 501, 0, 501, 1), a, b, c), nothingDrawn},
		{"too long ahead of a way that is far away", waysOf(a, b, c, wayOf(500, 0, 501, 0, 501, 1)), nothingDrawn},
		{"too long on the way, not in the end", waysOf(a, b, c, backwards(c)), nothingDrawn},
		{"too long on the way, with others", waysOf(c, b, a, backwards(b)), nothingDrawn},
		{"the same, never too long", waysOf(c, backwards(c), a, b), allDrawn},
		{"the same, never too long by turns", waysOf(a, c, backwards(c), b), allDrawn},
		{"just not too long, but its byte is", justLongWays(), sharesDrawn},
		{"the same in another order", waysOf(justLongWays()[2], b, a), sharesDrawn},
		{"just not too long, one of them turned round", waysOf(a, backwards(b), just), sharesDrawn},
		{"just not too long, behind a way that is far away", append(waysOf(wayOf(500, 0, 501, 0, 501, 1)), justLongWays()...), sharesDrawn},
	}
}

func TestDrawnLimitMetAndGoneBeyond(t *testing.T) {
	for _, row := range longDrawings() {
		s := pathOf(t, row.ways...)
		if is := checkDrawn(t, s, longSquare); is != row.want {
			t.Errorf("%s: %q: %v, want %v", row.why, s, is, row.want)
		}
		// Neither areas nor points are too long.
		if !checkInk(t, s) || checkFits(t, s, longSquare) {
			t.Errorf("%s: no ink, or it fits", row.why)
		}
	}
	shares, ok := impl.SharesFor(pathOf(t, justLongWays()...), longSquare)
	if !ok || len(shares[0].Den.Limbs) != impl.MaxLimbs {
		t.Errorf("not just as long as may be: %v %v", shares, ok)
	}
	wantZero(t, impl.ByteOf, shares[0])
}

// One square that is not told makes all the window be not told, wherever it stands there: nothing is left of the others.
func TestOneSquareThatIsNotDrawn(t *testing.T) {
	l := longWays()
	for want, s := range map[drawn]string{nothingDrawn: pathOf(t, l...), sharesDrawn: pathOf(t, justLongWays()...)} {
		for _, w := range []impl.Window{windowOf(7, 9, 3, 1), windowOf(9, 9, 3, 1), windowOf(8, 9, 3, 1), windowOf(9, 7, 1, 3), windowOf(9, 9, 1, 3), windowOf(9, 8, 1, 3), windowOf(8, 9, 2, 2), windowOf(9, 8, 2, 2), windowOf(9, 9, 2, 2), windowOf(8, 8, 2, 2), windowOf(2, 2, 8, 8)} {
			if is := checkDrawn(t, s, w); is != want {
				t.Errorf("%q %v: %v, want %v", s, w, is, want)
			}
		}
		for _, w := range []impl.Window{windowOf(7, 9, 2, 1), windowOf(9, 7, 1, 2), windowOf(9, 10, 1, 2), windowOf(10, 9, 3, 1), windowOf(7, 7, 2, 3), windowOf(11, 11, 2, 2), windowOf(1, 1, 8, 8)} {
			if is := checkDrawn(t, s, w); is != allDrawn {
				t.Errorf("%q %v: %v", s, w, is)
			}
		}
	}
}

// The longest paths, the most ways and the most points are told, and nothing of one byte, way or point more.
func TestDrawnPathsAtTheirLimits(t *testing.T) {
	r := fixed(239)
	w := windowOf(-2, -1, 3, 3)
	for n := 295; n <= impl.MaxPath+9; n++ {
		ways := waysOfLength(n)
		s := plainPath(ways)
		if len(s) != n {
			t.Fatalf("%q has not %d bytes", s, n)
		}
		if n > impl.MaxPath-3 || n%20 == 0 {
			wantDrawnIf(t, n <= impl.MaxPath, s, w)
		}
	}
	for n := 1; n <= impl.MaxWays+1; n++ {
		wantDrawnIf(t, n <= impl.MaxWays, trianglePath(n), w)
		wantDrawnIf(t, n <= impl.MaxWays, plainPath(manyWays(n, 5)), w)
	}
	for n := 1; n <= impl.MaxCorners+1; n++ {
		wantDrawnIf(t, n >= 3 && n <= impl.MaxCorners, pointsPath(n)+" Z", w)
		wantDrawnIf(t, n >= 3 && n <= impl.MaxCorners, trianglePath(3)+" "+pointsPath(n)+" Z", w)
		wantDrawnIf(t, n >= 3 && n <= impl.MaxCorners, plainPath(waysOf(somePts(r, n, 4))), w)
	}
}

func wantDrawnIf(t *testing.T, told bool, s string, w impl.Window) {
	t.Helper()
	if is := checkDrawn(t, s, w); (is == allDrawn) != told {
		t.Errorf("%q %v: %v, want %v", s, w, is, told)
	}
	if checkInk(t, s) != told {
		t.Errorf("InkOf %q: not %v", s, told)
	}
	checkFits(t, s, w)
}

// A way of MaxCorners points, crossing a square with each of its segments, has far more points there than before: they are no more than a ring may have.
func TestDrawnWaysWithManyPointsInASquare(t *testing.T) {
	most := 0
	for _, way := range [][]impl.Pt{
		wayOf(20, 19, -4, -4, 12, 16, -13, -19, 6, 10, -4, -10, 4, 10, -4, -8, 10, 16, -4, -5, 13, 14, -6, -5),
		wayOf(4, 2, -5, -4, 2, 2, -4, -5, 4, 6, -1, -3, 2, 3, -2, -2, 2, 1, -2, -2, 4, 4, -3, -2),
		wayOf(-2, -1, 3, 3, -1, -2, 1, 3, -1, -2, 3, 2, 0, 1, -2, 0, 3, 2, -2, -2, 2, 3, 1, 0),
	} {
		lo, hi := cornerRPts(windowOf(0, 0, 1, 1))
		part, told := plainClipBox(ringFrom(way), lo, hi)
		most = max(most, len(part))
		if !told || checkDrawn(t, pathOf(t, way), windowOf(-1, -1, 3, 3)) != allDrawn {
			t.Errorf("%v: not drawn", way)
		}
		if checkDrawn(t, pathOf(t, way, backwards(way), way), windowOf(0, 0, 2, 1)) != allDrawn {
			t.Errorf("%v three times: not drawn", way)
		}
	}
	if most < 34 {
		t.Error("too few points in the square:", most)
	}
}

func TestDrawnAtTheEdgesOfWindows(t *testing.T) {
	r := fixed(240)
	for _, w := range edgeWindows() {
		if checkDrawn(t, somePathWithin(r, w), w) != allDrawn {
			t.Errorf("%v: not drawn", w)
		}
		way := wayOf(w.X-1, w.Y-2, w.X+w.W+2, w.Y, w.X+w.W, w.Y+w.H+1, w.X, w.Y+w.H)
		if checkDrawn(t, pathOf(t, way), w) != allDrawn || checkFits(t, pathOf(t, way), w) {
			t.Errorf("%v about %v: not drawn, or it fits", way, w)
		}
		whole := pathOf(t, wayOf(w.X, w.Y, w.X+w.W, w.Y, w.X+w.W, w.Y+w.H, w.X, w.Y+w.H))
		wantPicture(t, "the window itself", whole, w, slices.Repeat([]int{255}, w.W*w.H))
		if !checkFits(t, whole, w) {
			t.Errorf("FitsWindow %q %v: not told", whole, w)
		}
		grid := pathOf(t, wayOf(-far, -far, far, -far, far, far, -far, far))
		wantPicture(t, "all the grid", grid, w, slices.Repeat([]int{255}, w.W*w.H))
	}
	// Windows are told from one place to the other, and not beyond.
	for n := -impl.MaxPlace - 3; n <= impl.MaxPlace+3; n++ {
		for _, w := range []impl.Window{windowOf(n, 0, 1, 1), windowOf(0, n, 1, 1), windowOf(n, n, 2, 1)} {
			wantDrawnInIf(t, away(n) <= impl.MaxPlace, w)
		}
	}
	for n := -1; n <= impl.MaxWindow+2; n++ {
		for _, w := range []impl.Window{windowOf(0, 0, n, 1), windowOf(0, 0, 1, n), windowOf(-3, 2, n, n)} {
			wantDrawnInIf(t, n >= 1 && n <= impl.MaxWindow, w)
		}
	}
}

func wantDrawnInIf(t *testing.T, good bool, w impl.Window) {
	t.Helper()
	// One is about 0, 0 and reaches the windows, one is one point alone.
	for _, s := range []string{"M -40 -30 L 41 0 L 3 29 Z", "M 0 0 H 0 V 0 Z"} {
		if is := checkDrawn(t, s, w); (is == allDrawn) != good {
			t.Errorf("%q %v: %v", s, w, is)
		}
		if _, ok := impl.FitsWindow(s, w); ok != good {
			t.Errorf("FitsWindow %q %v: %v", s, w, ok)
		}
	}
}

// The farthest and the steepest segments that there are, through all kinds of squares.
func TestDrawnOfFarPoints(t *testing.T) {
	r := fixed(241)
	for range 40 {
		l := [][]impl.Pt{}
		for range 1 + r.IntN(2) {
			l = append(l, somePts(r, 3+r.IntN(5), far))
		}
		s := pathOf(t, l...)
		w := windowOf(r.IntN(41)-20, r.IntN(41)-20, 1+r.IntN(4), 1+r.IntN(4))
		if checkDrawn(t, s, w) != allDrawn {
			t.Errorf("%q %v: not drawn", s, w)
		}
		checkInk(t, s)
		checkFits(t, s, w)
	}
	for _, l := range edgeWays() {
		if s := plainPath(l); len(s) <= impl.MaxPath {
			wantDrawnIf(t, true, s, windowOf(-1, -1, 3, 2))
		}
	}
	needles := strings.Join([]string{"M -1000 -999 L 1000 999 L 999 1000 Z", "M -1000 0 L 1000 1 L 1000 0 Z", "M 0 -1000 L 1 1000 h -1 Z"}, " ")
	wantDrawnIf(t, true, needles, windowOf(-2, -2, 4, 4))
}
