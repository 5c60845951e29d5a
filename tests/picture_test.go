package tests

import (
	"math/big"
	"math/rand/v2"
	"slices"
	"strings"
	"testing"

	"loop.example/g00409/impl"
)

type drawnRow struct {
	why, path string
	w         impl.Window
	shares    string
	bytes     []int
	rows      string
}

func drawnRows() []drawnRow {
	one, wide := windowOf(0, 0, 1, 1), windowOf(0, 0, 3, 1)
	return []drawnRow{
		{"half of a square", "M 0 0 H 2 V 2 Z", windowOf(0, 0, 2, 2), "1/2 1 0 1/2", []int{128, 255, 0, 128}, "1x128,1x255 1x0,1x128"},
		{"the square itself", "M 3 4 h 1 v 1 h -1 Z", windowOf(3, 4, 1, 1), "1", []int{255}, "1x255"},
		{"the square itself, to the right", "M 3 4 v 1 h 1 v -1 Z", windowOf(3, 4, 1, 1), "-1", []int{255}, "1x255"},
		{"beside the window", "M 3 4 h 1 v 1 h -1 Z", windowOf(4, 4, 2, 1), "0 0", []int{0, 0}, "2x0"},
		{"one square of many", "M 0 0 H 1 V 1 H 0 Z", windowOf(-1, -1, 3, 2), "0 0 0 0 1 0", []int{0, 0, 0, 0, 255, 0}, "3x0 1x0,1x255,1x0"},
		{"the least Y at first", "M 0 0 H 2 V 1 H 0 Z", windowOf(0, 0, 2, 3), "1 1 0 0 0 0", []int{255, 255, 0, 0, 0, 0}, "2x255 2x0 2x0"},
		{"the least X at first", "M 0 0 H 1 V 2 H 0 Z", windowOf(0, 0, 3, 2), "1 0 0 1 0 0", []int{255, 0, 0, 255, 0, 0}, "1x255,2x0 1x255,2x0"},
		{"a window's part", "M -9 -9 H 9 V 1 H -9 Z", windowOf(-2, 0, 2, 2), "1 1 0 0", []int{255, 255, 0, 0}, "2x255 2x0"},
		{"a hole", "M 0 0 H 3 V 3 H 0 Z M 1 1 V 2 H 2 V 1 Z", windowOf(0, 0, 3, 3), "1 1 1 1 0 1 1 1 1", []int{255, 255, 255, 255, 0, 255, 255, 255, 255}, "3x255 1x255,1x0,1x255 3x255"},
		{"no hole: both go round alike", "M 0 0 H 3 V 3 H 0 Z M 1 1 H 2 V 2 H 1 Z", windowOf(0, 0, 3, 3), "1 1 1 1 2 1 1 1 1", slices.Repeat([]int{255}, 9), "3x255 3x255 3x255"},
		{"two halves make one", "M 0 0 H 1 V 1 Z M 0 0 L 1 1 L 0 1 Z", one, "1", []int{255}, "1x255"},
		{"two halves against each other", "M 0 0 H 1 V 1 Z M 0 0 V 1 L 1 1 Z", one, "0", []int{0}, "1x0"},
		{"a half less a whole", "M 0 0 H 1 V 1 Z M 0 0 V 1 H 1 V 0 Z", one, "-1/2", []int{128}, "1x128"},
		{"a slope", "M 0 0 h 3 v 1 Z", wide, "1/6 1/2 5/6", []int{43, 128, 213}, "1x43,1x128,1x213"},
		{"a slope twice: the sum is rounded, not each", "M 0 0 h 3 v 1 Z M 0 0 h 3 v 1 Z", wide, "1/3 1 5/3", []int{85, 255, 255}, "1x85,2x255"},
		{"a slope four times", "M 0 0 h 3 v 1 Z M 0 0 h 3 v 1 Z M 0 0 h 3 v 1 Z M 0 0 h 3 v 1 Z", wide, "2/3 2 10/3", []int{170, 255, 255}, "1x170,2x255"},
		{"a slope less itself", "M 0 0 h 3 v 1 Z M 0 0 L 3 1 v -1 Z", wide, "0 0 0", []int{0, 0, 0}, "3x0"},
		{"a slope twice less itself", "M 0 0 h 3 v 1 Z M 0 0 L 3 1 v -1 Z M 3 1 L 0 0 H 3 Z", wide, "1/6 1/2 5/6", []int{43, 128, 213}, "1x43,1x128,1x213"},
		{"less than nothing: twice the other way round", "M 0 0 L 3 1 v -1 Z M 3 1 V 0 H 0 Z", wide, "-1/3 -1 -5/3", []int{85, 255, 255}, "1x85,2x255"},
		{"more than 1 on the way", "M 0 0 H 1 V 1 H 0 Z M 0 0 H 1 V 1 H 0 Z M 0 0 V 1 H 1 V 0 Z", one, "1", []int{255}, "1x255"},
		{"crosses itself", "M 0 0 L 2 2 V 0 L 0 2 Z", windowOf(0, 0, 2, 2), "1/2 -1/2 1/2 -1/2", []int{128, 128, 128, 128}, "2x128 2x128"},
		{"crosses itself within a square", "M 0 0 L 1 1 V 0 L 0 1 Z", one, "0", []int{0}, "1x0"},
		{"twice round in one way", "M 0 0 h 1 v 1 h -1 v -1 h 1 v 1 h -1 Z", one, "2", []int{255}, "1x255"},
		{"one point again and again", "M 0 0 h 0 v 0 Z", one, "0", []int{0}, "1x0"},
		{"out and back", "M 0 0 H 1 H 0 Z", one, "0", []int{0}, "1x0"},
		{"a window of one row", "M 0 0 h 8 v 1 Z", windowOf(0, 0, 8, 1), "1/16 3/16 5/16 7/16 9/16 11/16 13/16 15/16", []int{16, 48, 80, 112, 143, 175, 207, 239}, "1x16,1x48,1x80,1x112,1x143,1x175,1x207,1x239"},
		{"a window of one column", "M 0 0 l 1 8 H 0 Z", windowOf(0, 0, 1, 8), "1/16 3/16 5/16 7/16 9/16 11/16 13/16 15/16", []int{16, 48, 80, 112, 143, 175, 207, 239}, "1x16 1x48 1x80 1x112 1x143 1x175 1x207 1x239"},
		{"too little for a byte, and just enough", "M 0 0 h 1000 v 1 Z", windowOf(0, 0, 8, 1), "1/2000 3/2000 1/400 7/2000 9/2000 11/2000 13/2000 3/400", []int{0, 0, 1, 1, 1, 1, 2, 2}, "2x0,4x1,2x2"},
		{"nearly all", "M 0 0 H 1000 L 0 1 Z", windowOf(0, 0, 3, 1), "1999/2000 1997/2000 399/400", []int{255, 255, 254}, "2x255,1x254"},
		{"all corners of the grid", "M -1000 -1000 H 1000 V 1000 H -1000 Z", windowOf(-20, 20, 2, 2), "1 1 1 1", []int{255, 255, 255, 255}, "2x255 2x255"},
		{"all within is a hole", "M -1000 -1000 H 1000 V 1000 H -1000 Z M 20 -20 V -19 H 21 V -20 Z", windowOf(20, -20, 2, 2), "0 1 1 1", []int{0, 255, 255, 255}, "1x0,1x255 2x255"},
		{"four ways in four squares", "M 0 0 h 1 v 1 Z M 1 0 h 1 v 1 h -1 Z M 0 1 v 1 h 1 Z M 1 1 h 1 l -1 1 Z", windowOf(0, 0, 2, 2), "1/2 1 -1/2 1/2", []int{128, 255, 128, 128}, "1x128,1x255 2x128"},
		{"the last way alone in the window", "M 9 9 h 1 v 1 Z M -9 9 h 1 v 1 Z M 9 -9 h 1 v 1 Z M 0 0 h 1 v 1 Z", one, "1/2", []int{128}, "1x128"},
		{"the first way alone in the window", "M 0 0 h 1 v 1 Z M -9 9 h 1 v 1 Z M 9 -9 h 1 v 1 Z M 9 9 h 1 v 1 Z", one, "1/2", []int{128}, "1x128"},
	}
}

func TestDrawnWrittenOut(t *testing.T) {
	for _, c := range drawnRows() {
		wantShares(t, c.why, c.path, c.w, ratsFrom(c.shares))
		wantPicture(t, c.why, c.path, c.w, c.bytes)
		wantRows(t, c.why, c.path, c.w, rowsFrom(c.rows))
		if checkDrawn(t, c.path, c.w) != allDrawn {
			t.Errorf("%s: not drawn", c.why)
		}
	}
}

func TestFileWrittenOut(t *testing.T) {
	for _, c := range []struct {
		path string
		w    impl.Window
		want string
	}{
		{"M 0 0 H 2 V 2 Z", windowOf(0, 0, 2, 2), "P5\n2 2\n255\n\x80\xff\x00\x80"},
		{"M 0 0 H 2 V 2 Z", windowOf(1, 0, 1, 2), "P5\n1 2\n255\n\xff\x80"},
		{"M 0 0 H 2 V 2 Z", windowOf(0, 0, 3, 1), "P5\n3 1\n255\n\x80\xff\x00"},
		{"M 0 0 h 8 v 1 Z", windowOf(0, 0, 8, 1), "P5\n8 1\n255\n\x10\x30\x50\x70\x8f\xaf\xcf\xef"},
		{"M 0 0 H 1 V 1 H 0 Z", windowOf(5, 5, 1, 1), "P5\n1 1\n255\n\x00"},
		{"M -9 -9 H 9 V 9 H -9 Z", windowOf(-4, -4, 8, 8), "P5\n8 8\n255\n" + strings.Repeat("\xff", 64)},
	} {
		file, ok := impl.FileFor(c.path, c.w)
		wantText(t, "FileFor", []any{c.path, c.w}, file, ok, c.want)
	}
}

type inkRow struct{ why, path, want string }

func inkRows() []inkRow {
	grid := "M -1000 -1000 H 1000 V 1000 H -1000 Z"
	return []inkRow{
		{"a triangle", "M 0 0 H 1 V 1 Z", "1/2"},
		{"a greater one", "M 0 0 H 2 V 2 Z", "2"},
		{"to the right", "M 0 0 V 1 H 1 Z", "-1/2"},
		{"a way with a hole", "M 0 0 H 3 V 3 H 0 Z M 1 1 V 2 H 2 V 1 Z", "8"},
		{"two ways round alike", "M 0 0 H 3 V 3 H 0 Z M 1 1 H 2 V 2 H 1 Z", "10"},
		{"two ways apart", "M 0 0 H 1 V 1 Z M 500 500 h 2 v 3 Z", "7/2"},
		{"a way less itself", "M 0 0 h 3 v 1 Z M 0 0 L 3 1 v -1 Z", "0"},
		{"a hole greater than what is about it", "M 1 1 H 2 V 2 H 1 Z M 0 0 V 3 H 3 V 0 Z", "-8"},
		{"halves to a whole number", "M 0 0 H 1 V 1 Z M 0 0 H 1 V 1 Z", "1"},
		{"three halves", "M 0 0 H 1 V 1 Z M 0 0 H 1 V 1 Z M 7 7 h 1 v 1 Z", "3/2"},
		{"all ways", "M 0 0 h 2 v 1 Z M 0 0 h 4 v 1 Z M 0 0 h 6 v 1 Z M 0 0 h 9 v 1 Z", "21/2"},
		{"crosses itself", "M 0 0 L 2 2 V 0 L 0 2 Z", "0"},
		{"twice round", "M 0 0 h 1 v 1 h -1 v -1 h 1 v 1 h -1 Z", "2"},
		{"one point again and again", "M 5 5 h 0 v 0 Z", "0"},
		{"all points on one line", "M 0 0 L 2 1 L 4 2 L 6 3 Z", "0"},
		{"all corners of the grid", grid, "4000000"},
		{"all corners of the grid, four times", strings.Join(slices.Repeat([]string{grid}, 4), " "), "16000000"},
		{"all corners of the grid, to the right", "M -1000 -1000 V 1000 H 1000 V -1000 Z", "-4000000"},
		{"outside of all windows", "M 900 900 h 3 v 1 Z", "3/2"},
		{"as often round as may be, and as far", "M -1000 -1000 H 1000 V 1000 H -1000 V -1000 H 1000 V 1000 H -1000 V -1000 H 1000 V 1000 H -1000 Z", "12000000"},
	}
}

func TestInkWrittenOut(t *testing.T) {
	for _, c := range inkRows() {
		ink, ok := impl.InkOf(c.path)
		wantRat(t, c.why+": InkOf "+c.path, ink, ok, plainRat(ratFrom(c.want)))
		checkInk(t, c.path)
	}
}

type fitRow struct {
	why, path string
	w         impl.Window
	want      bool
}

func fitRows() []fitRow {
	square, w := "M 2 3 H 5 V 7 H 2 Z", windowOf(2, 3, 3, 4)
	return []fitRow{
		{"on its edge with all points", square, w, true},
		{"within, with room about it", square, windowOf(1, 2, 5, 6), true},
		{"beyond on the left", square, windowOf(3, 3, 3, 4), false},
		{"beyond on the right", square, windowOf(1, 3, 3, 4), false},
		{"beyond below", square, windowOf(2, 4, 3, 4), false},
		{"beyond above", square, windowOf(2, 2, 3, 4), false},
		{"too narrow", square, windowOf(2, 3, 2, 4), false},
		{"too low", square, windowOf(2, 3, 3, 3), false},
		{"wholly elsewhere", square, windowOf(-9, -9, 8, 8), false},
		{"a window within the way", "M -9 -9 H 9 V 9 H -9 Z", windowOf(0, 0, 2, 2), false},
		{"a window crossed by the way, all points beyond", "M -9 -9 L 9 9 L 9 8 Z", windowOf(-2, -2, 4, 4), false},
		{"one point at each corner", "M 0 0 L 1 1 L 1 0 L 0 1 Z", windowOf(0, 0, 1, 1), true},
		{"all points at one corner", "M 1 1 h 0 v 0 Z", windowOf(0, 0, 1, 1), true},
		{"all points just beyond that corner", "M 2 1 h 0 v 0 Z", windowOf(0, 0, 1, 1), false},
		{"all points just beyond that corner above", "M 1 2 h 0 v 0 Z", windowOf(0, 0, 1, 1), false},
		{"just beyond the least corner", "M -1 0 h 0 v 0 Z", windowOf(0, 0, 1, 1), false},
		{"just beyond the least corner below", "M 0 -1 h 0 v 0 Z", windowOf(0, 0, 1, 1), false},
		{"the first point beyond", "M -1 0 H 2 V 2 Z", windowOf(0, 0, 2, 2), false},
		{"the second point beyond", "M 0 0 H 3 L 2 2 Z", windowOf(0, 0, 2, 2), false},
		{"the last point beyond", "M 0 0 H 2 V 3 Z", windowOf(0, 0, 2, 2), false},
		{"two ways within", "M 0 0 H 2 V 2 Z M 0 2 h 1 v -1 Z", windowOf(0, 0, 2, 2), true},
		{"the first way beyond", "M 9 9 h 1 v 1 Z M 0 0 H 2 V 2 Z", windowOf(0, 0, 2, 2), false},
		{"the second way beyond", "M 0 0 H 2 V 2 Z M 9 9 h 1 v 1 Z", windowOf(0, 0, 2, 2), false},
		{"the last way beyond, by its last point", "M 0 0 H 2 V 2 Z M 0 0 H 2 V 2 Z M 0 0 H 2 V 2 Z M 0 0 H 2 V 3 Z", windowOf(0, 0, 2, 2), false},
		{"all ways within", "M 0 0 H 2 V 2 Z M 0 0 H 1 V 2 Z M 0 0 H 2 V 1 Z M 1 1 h 1 v 1 Z", windowOf(0, 0, 2, 2), true},
		{"at the least place", "M -20 -20 h 8 v 8 Z", windowOf(-20, -20, 8, 8), true},
		{"beyond the least place", "M -21 -20 h 8 v 8 Z", windowOf(-20, -20, 8, 8), false},
		{"at the greatest place", "M 28 28 h -8 v -8 Z", windowOf(20, 20, 8, 8), true},
		{"beyond the greatest place", "M 28 29 h -8 v -8 Z", windowOf(20, 20, 8, 8), false},
		{"at the edge of the grid", "M 1000 1000 h -1 v -1 Z", windowOf(20, 20, 8, 8), false},
	}
}

func TestFitsWrittenOut(t *testing.T) {
	for _, c := range fitRows() {
		fits, ok := impl.FitsWindow(c.path, c.w)
		wantFlag(t, c.why+": FitsWindow "+c.path, c.w, fits, ok, c.want)
		if checkFits(t, c.path, c.w) != c.want {
			t.Errorf("%s: not %v plainly", c.why, c.want)
		}
	}
}

func TestPicturesOfAll(t *testing.T) {
	r := fixed(232)
	for range 250 {
		s, w := somePathAbout(r), someWindow(r)
		if checkDrawn(t, s, w) != allDrawn {
			t.Errorf("%q %v: not drawn", s, w)
		}
		checkInk(t, s)
		checkFits(t, s, w)
	}
	for _, c := range pathRows() {
		for range 2 {
			checkDrawn(t, c.path, windowAbout(r, ringFrom(c.ways[r.IntN(len(c.ways))])))
			checkDrawn(t, c.path, somePlacedWindow(r))
		}
		checkInk(t, c.path)
	}
}

// A window and a point are looked at by all places of it, within, on the edge, and without.
func TestFitsAtAllPlaces(t *testing.T) {
	r := fixed(233)
	for range 20 {
		w := somePlacedWindow(r)
		for x := w.X - 2; x <= w.X+w.W+2; x++ {
			for y := w.Y - 2; y <= w.Y+w.H+2; y++ {
				p := pt(x, y)
				in := x >= w.X && x <= w.X+w.W && y >= w.Y && y <= w.Y+w.H
				if checkFits(t, pathOf(t, []impl.Pt{p, p, p}), w) != in {
					t.Fatalf("FitsWindow of %v alone in %v: not %v", p, w, in)
				}
				corner := pt(w.X, w.Y+w.H)
				at := r.IntN(4)
				way := slices.Insert([]impl.Pt{corner, corner, pt(w.X+w.W, w.Y)}, at%4, p)
				if checkFits(t, pathOf(t, way), w) != in {
					t.Fatalf("FitsWindow of %v in %v: not %v", way, w, in)
				}
			}
		}
	}
}

// uprightWay goes along the lines of the grid alone, so that each square is gone round as often as its middle.
func uprightWay(r *rand.Rand, far int) []impl.Pt {
	l := somePts(r, 2*(2+r.IntN(5)), far)
	for i := range l {
		if i%2 == 1 {
			l[i].Y = l[i-1].Y
		} else if i > 0 {
			l[i].X = l[i-1].X
		}
	}
	// From the last point to the first one, too.
	l[len(l)-1].X = l[0].X
	return l
}

// Twice the grid has the middles of squares as points: rounds are counted there by quarters.
func TestPictureOfUprightWaysIsRounds(t *testing.T) {
	r := fixed(234)
	many := map[int]int{}
	for range 120 {
		ways, w := waysOf(uprightWay(r, 5), uprightWay(r, 5), uprightWay(r, 5))[r.IntN(3):], windowOf(r.IntN(5)-5, r.IntN(5)-5, 1+r.IntN(6), 1+r.IntN(6))
		shares, bytes := []impl.Rat{}, []int{}
		for _, p := range squaresRowByRow(w) {
			rounds := 0
			for _, way := range ways {
				twice := slices.Clone(way)
				for i := range twice {
					twice[i].X *= 2
					twice[i].Y *= 2
				}
				rounds += plainWinding(twice, pt(2*p.X+1, 2*p.Y+1))
			}
			many[away(rounds)]++
			shares = append(shares, fromPlainRat(big.NewRat(int64(rounds), 1)))
			bytes = append(bytes, 255*min(away(rounds), 1))
		}
		s := pathOf(t, ways...)
		wantShares(t, "rounds", s, w, shares)
		wantPicture(t, "rounds", s, w, bytes)
	}
	if many[0] < 500 || many[1] < 300 || many[2] < 50 {
		t.Error("too few of a kind:", many)
	}
}

// What all ways have together is the sum of what each has alone, square by square; bytes are of the sums.
func TestAllWaysCountTogether(t *testing.T) {
	r := fixed(235)
	unlike := 0
	for range 80 {
		l, w := someWays(r, 2+r.IntN(3), 6), windowOf(-3, -2, 1+r.IntN(5), 1+r.IntN(5))
		if len(plainPath(l)) > impl.MaxPath {
			continue
		}
		sums, bytes, ink := make([]*big.Rat, w.W*w.H), make([]int, w.W*w.H), new(big.Rat)
		for i := range sums {
			sums[i] = new(big.Rat)
		}
		for _, way := range l {
			alone := pathOf(t, way)
			shares, ok := impl.SharesFor(alone, w)
			ofRing, is := impl.SharesIn(ringFrom(way), w)
			if !ok || !is || !samePoly(shares, ofRing) {
				t.Fatalf("SharesFor %q %v: %v %v, the ring's are %v", alone, w, shares, ok, ofRing)
			}
			for i, a := range shares {
				sums[i].Add(sums[i], plainRat(a))
			}
			area, _ := impl.InkOf(alone)
			ink.Add(ink, plainRat(area))
			picture, _ := impl.PictureFor(alone, w)
			for i, b := range picture {
				bytes[i] = min(bytes[i]+b, 255)
			}
		}
		together := pathOf(t, l...)
		wantShares(t, "together", together, w, plainPoly(sums).told())
		all, ok := impl.InkOf(together)
		wantRat(t, "InkOf together", all, ok, ink)
		if picture, _ := impl.PictureFor(together, w); !slices.Equal(picture, bytes) {
			unlike++
		}
	}
	if unlike < 40 {
		t.Error("too few pictures that are not those of each way summed up:", unlike)
	}
}

// In whatever order ways stand, wherever each begins, and in whatever words, there is one picture; each way turned round, it is the same one, with shares and ink below 0.
func TestOnePictureInManyPaths(t *testing.T) {
	r := fixed(236)
	many := 0
	for range 60 {
		s, w := somePathAbout(r), someWindow(r)
		l, _, _ := plainParse(s)
		shares, ok := impl.SharesFor(s, w)
		bytes, is := impl.PictureFor(s, w)
		ink, told := impl.InkOf(s)
		if !ok || !is || !told {
			t.Fatalf("%q %v: refused", s, w)
		}
		mixed, turned := [][]impl.Pt{}, [][]impl.Pt{}
		for _, i := range r.Perm(len(l)) {
			mixed = append(mixed, begunAt(l[i], r.IntN(len(l[i]))))
			turned = append(turned, backwards(l[i]))
		}
		if len(plainPath(l)) > impl.MaxPath {
			continue
		}
		many++
		for _, other := range []string{pathOf(t, l...), pathOf(t, mixed...)} {
			wantShares(t, "other words", other, w, shares)
			wantPicture(t, "other words", other, w, bytes)
			same, ok := impl.InkOf(other)
			wantRat(t, "InkOf in other words", same, ok, plainRat(ink))
		}
		below := clonePoly(shares)
		for i, a := range below {
			below[i] = turnedRat(a)
		}
		other := pathOf(t, turned...)
		wantShares(t, "turned round", other, w, below)
		wantPicture(t, "turned round", other, w, bytes)
		same, ok := impl.InkOf(other)
		wantRat(t, "InkOf turned round", same, ok, plainRat(turnedRat(ink)))
	}
	if many < 40 {
		t.Error("too few of them:", many)
	}
}

// A path and a window moved alike have the same picture.
func TestPictureMoved(t *testing.T) {
	r := fixed(237)
	many := 0
	for range 60 {
		s, w, by := somePathAbout(r), windowOf(-4, -3, 1+r.IntN(6), 1+r.IntN(6)), somePt(r, 16)
		moved, ok := impl.MovePath(s, by)
		if !ok {
			continue
		}
		many++
		there := windowOf(w.X+by.X, w.Y+by.Y, w.W, w.H)
		shares, _ := impl.SharesFor(s, w)
		bytes, _ := impl.PictureFor(s, w)
		fits, _ := impl.FitsWindow(s, w)
		ink, _ := impl.InkOf(s)
		wantShares(t, "moved", moved, there, shares)
		wantPicture(t, "moved", moved, there, bytes)
		still, ok := impl.FitsWindow(moved, there)
		wantFlag(t, "FitsWindow moved", there, still, ok, fits)
		same, ok := impl.InkOf(moved)
		wantRat(t, "InkOf moved", same, ok, plainRat(ink))
	}
	if many < 40 {
		t.Error("too few of them:", many)
	}
}

// What is told by one function is what the others are told from, as the words say.
func TestPictureStepByStep(t *testing.T) {
	r := fixed(238)
	for range 60 {
		s, w := somePathAbout(r), someWindow(r)
		shares, _ := impl.SharesFor(s, w)
		want := []int{}
		for _, a := range shares {
			b, ok := impl.ByteOf(a)
			if !ok {
				t.Fatalf("ByteOf %v: refused", a)
			}
			want = append(want, b)
		}
		bytes, ok := impl.PictureFor(s, w)
		wantInts(t, "PictureFor", s, bytes, ok, want)
		file, ok := impl.FileFor(s, w)
		wide, high, same, is := impl.ReadPicture(file)
		if !ok || !is || wide != w.W || high != w.H || !slices.Equal(same, bytes) {
			t.Fatalf("FileFor %q %v: %q, read as %d %d %v", s, w, file, wide, high, same)
		}
		rows, ok := impl.RowsFor(s, w)
		if !ok || len(rows) != w.H {
			t.Fatalf("RowsFor %q %v: %q %v", s, w, rows, ok)
		}
		all := []int{}
		for _, text := range rows {
			runs, ok := impl.ReadRuns(text)
			row, is := impl.FromRuns(runs)
			if !ok || !is || len(row) != w.W {
				t.Fatalf("RowsFor %q %v: a row is %q", s, w, text)
			}
			all = append(all, row...)
		}
		wantInts(t, "the rows' bytes", s, all, true, bytes)
	}
}
