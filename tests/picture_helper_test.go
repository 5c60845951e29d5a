package tests

import (
	"math/big"
	"math/rand/v2"
	"slices"
	"strings"
	"testing"

	"loop.example/g00409/impl"
)

// callsOfPicture are all that take a path and a window.
func callsOfPicture() []any {
	return []any{impl.SharesFor, impl.PictureFor, impl.FileFor, impl.RowsFor, impl.FitsWindow}
}

// plainSharesFor has what each way has of each square by what lies between its segments and the square's least Y; it tells none where a sum from the first way on is too long.
func plainSharesFor(ways [][]impl.Pt, w impl.Window) ([]*big.Rat, bool) {
	shares, told := []*big.Rat{}, true
	for _, p := range squaresRowByRow(w) {
		sum := new(big.Rat)
		for _, way := range ways {
			sum.Add(sum, plainCovered(ringFrom(way), windowOf(p.X, p.Y, 1, 1)))
			told = told && fitsMost(sum)
		}
		shares = append(shares, sum)
	}
	return shares, told
}

// plainBytesFor tells none where the byte of a share has something too long on the way.
func plainBytesFor(shares []*big.Rat) ([]int, bool) {
	bytes, told := []int{}, true
	for _, a := range shares {
		bytes = append(bytes, plainByte(a))
		told = told && isByteTold(a)
	}
	return bytes, told
}

// plainRowsFor cuts off row by row.
func plainRowsFor(bytes []int, w impl.Window) []string {
	rows := []string{}
	for len(bytes) > 0 {
		rows = append(rows, plainText(plainRuns(bytes[:w.W])))
		bytes = bytes[w.W:]
	}
	return rows
}

func plainInk(ways [][]impl.Pt) *big.Rat {
	twice := 0
	for _, way := range ways {
		twice += plainArea(way)
	}
	return big.NewRat(int64(twice), 2)
}

// plainFits looks whether the box of all points is within the window's corners.
func plainFits(ways [][]impl.Pt, w impl.Window) bool {
	lo, hi := plainBox(inARow(ways...))
	return lo.X >= w.X && lo.Y >= w.Y && hi.X <= w.X+w.W && hi.Y <= w.Y+w.H
}

func wantNotShared(t *testing.T, why, s string, w impl.Window) {
	t.Helper()
	if l, ok := impl.SharesFor(s, w); ok || len(l) > 0 {
		t.Fatalf("%s: SharesFor %q %v: %v %v, want the zero answer", why, s, w, l, ok)
	}
	wantNotPictured(t, why, s, w)
}

func wantNotPictured(t *testing.T, why, s string, w impl.Window) {
	t.Helper()
	if l, ok := impl.PictureFor(s, w); ok || len(l) > 0 {
		t.Fatalf("%s: PictureFor %q %v: %v %v, want the zero answer", why, s, w, l, ok)
	}
	if file, ok := impl.FileFor(s, w); ok || file != "" {
		t.Fatalf("%s: FileFor %q %v: %q %v, want the zero answer", why, s, w, file, ok)
	}
	if rows, ok := impl.RowsFor(s, w); ok || len(rows) > 0 {
		t.Fatalf("%s: RowsFor %q %v: %q %v, want the zero answer", why, s, w, rows, ok)
	}
}

func wantShares(t *testing.T, why, s string, w impl.Window, want []impl.Rat) {
	t.Helper()
	shares, ok := impl.SharesFor(s, w)
	if !ok || !samePoly(shares, want) {
		t.Fatalf("%s: SharesFor %q %v: %v %v, want %v", why, s, w, shares, ok, want)
	}
}

// wantPicture wants bytes, and the file and the rows with just these.
func wantPicture(t *testing.T, why, s string, w impl.Window, want []int) {
	t.Helper()
	bytes, ok := impl.PictureFor(s, w)
	wantInts(t, why+": PictureFor", []any{s, w}, bytes, ok, want)
	file, ok := impl.FileFor(s, w)
	wantText(t, why+": FileFor", []any{s, w}, file, ok, plainPicture(w.W, w.H, want))
	wantRows(t, why, s, w, plainRowsFor(want, w))
}

func wantRows(t *testing.T, why, s string, w impl.Window, want []string) {
	t.Helper()
	rows, ok := impl.RowsFor(s, w)
	if !ok || !slices.Equal(rows, want) {
		t.Fatalf("%s: RowsFor %q %v: %q %v, want %q", why, s, w, rows, ok, want)
	}
}

// Of a path in a window it may be that all is told, or shares alone, or nothing.
type drawn int

const (
	nothingDrawn drawn = iota
	sharesDrawn
	allDrawn
)

// checkDrawn wants shares, bytes, files and rows, or the zero answer of each where nothing is told.
func checkDrawn(t *testing.T, s string, w impl.Window) drawn {
	t.Helper()
	ways, code, _ := plainParse(s)
	if code != 0 || !isGoodWindow(w) {
		wantNotShared(t, "no path, or no window", s, w)
		return nothingDrawn
	}
	shares, told := plainSharesFor(ways, w)
	if !told {
		wantNotShared(t, "a sum too long", s, w)
		return nothingDrawn
	}
	wantShares(t, "summed up plainly", s, w, plainPoly(shares).told())
	bytes, told := plainBytesFor(shares)
	if !told {
		wantNotPictured(t, "a byte that is not told", s, w)
		return sharesDrawn
	}
	wantPicture(t, "rounded plainly", s, w, bytes)
	return allDrawn
}

func checkInk(t *testing.T, s string) bool {
	t.Helper()
	ink, ok := impl.InkOf(s)
	ways, code, _ := plainParse(s)
	if code != 0 {
		if ok || !sameRat(ink, impl.Rat{}) {
			t.Fatalf("InkOf %q: %v %v, want the zero answer", s, ink, ok)
		}
		return false
	}
	wantRat(t, "InkOf "+s, ink, ok, plainInk(ways))
	return true
}

func checkFits(t *testing.T, s string, w impl.Window) bool {
	t.Helper()
	fits, ok := impl.FitsWindow(s, w)
	ways, code, _ := plainParse(s)
	if code != 0 || !isGoodWindow(w) {
		if ok || fits {
			t.Fatalf("FitsWindow %q %v: %v %v, want the zero answer", s, w, fits, ok)
		}
		return false
	}
	wantFlag(t, "FitsWindow "+s, w, fits, ok, plainFits(ways, w))
	return fits
}

// pathOf tells a path of good ways; a path too long is a fault of the test.
func pathOf(t *testing.T, ways ...[]impl.Pt) string {
	t.Helper()
	s := plainPath(ways)
	if !isPlainWays(ways) || len(s) > impl.MaxPath {
		t.Fatalf("no path: %v", ways)
	}
	return s
}

// somePathAbout has some ways about 0, 0, in words of all kinds.
func somePathAbout(r *rand.Rand) string {
	for {
		l := someWays(r, 1+r.IntN(impl.MaxWays), 2+r.IntN(9))
		if r.IntN(3) == 0 {
			l = someWalk(r, 1+r.IntN(impl.MaxWays), 2+r.IntN(9))
		}
		if s := somePath(r, l); len(s) <= impl.MaxPath {
			return s
		}
	}
}

// somePathWithin has all points in the window, or on its edge.
func somePathWithin(r *rand.Rand, w impl.Window) string {
	for {
		l := someWays(r, 1+r.IntN(impl.MaxWays), 1)
		for _, way := range l {
			for i := range way {
				way[i] = pt(w.X+r.IntN(w.W+1), w.Y+r.IntN(w.H+1))
			}
		}
		if s := somePath(r, l); len(s) <= impl.MaxPath {
			return s
		}
	}
}

// somePlacedWindow may lie anywhere.
func somePlacedWindow(r *rand.Rand) impl.Window {
	return windowOf(r.IntN(2*impl.MaxPlace+1)-impl.MaxPlace, r.IntN(2*impl.MaxPlace+1)-impl.MaxPlace, 1+r.IntN(impl.MaxWindow), 1+r.IntN(impl.MaxWindow))
}

// longSquare is where longWays have long shares.
var longSquare = windowOf(9, 9, 1, 1)

// longWays cross longSquare with each segment, from its left to its upper edge or from its lower to its right one, so that Den has the differences of X and of Y of all of them, which have little in common: all three have a share there of one limb more than MaxLimbs.
func longWays() [][]impl.Pt {
	return [][]impl.Pt{
		wayOf(0, 0, 977, 946, 4, 5, 885, 648, 7, 7, 570, 510, 1, 1, 684, 725, 7, 6, 914, 925, 3, 3, 797, 866),
		wayOf(6, 6, 977, 865, 3, 3, 805, 824, 6, 6, 932, 883, 3, 4, 754, 747, 8, 8, 969, 999, 2, 2, 953, 859),
		wayOf(1, 0, 578, 659, 7, 6, 779, 943, 1, 0, 830, 841, 3, 3, 845, 936, 2, 2, 795, 817, 8, 8, 735, 839),
	}
}

// withPt is a way with another point in one place.
func withPt(l []impl.Pt, at int, p impl.Pt) []impl.Pt {
	l = slices.Clone(l)
	l[at] = p
	return l
}

// justLongWays have a share at longSquare of MaxLimbs limbs that is told, and whose byte is not.
func justLongWays() [][]impl.Pt {
	l := longWays()
	return waysOf(l[0], l[1], withPt(l[2], 9, pt(500, 600)))
}

// rowsFrom reads what stands between blanks.
func rowsFrom(s string) []string {
	return strings.Fields(s)
}
