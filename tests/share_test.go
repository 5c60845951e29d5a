package tests

import (
	"math"
	"math/big"
	"slices"
	"testing"

	"loop.example/g00409/impl"
)

func TestGoodWindow(t *testing.T) {
	for _, w := range append(edgeWindows(), windowOf(0, 0, 2, 3), windowOf(-7, 19, 5, 1)) {
		if !impl.GoodWindow(w) {
			t.Errorf("GoodWindow %v: false", w)
		}
	}
	for _, w := range wrongWindows() {
		if impl.GoodWindow(w) {
			t.Errorf("GoodWindow %v: true", w)
		}
	}
	for n := -99; n <= 99; n++ {
		place, wide := n >= -impl.MaxPlace && n <= impl.MaxPlace, n >= 1 && n <= impl.MaxWindow
		if impl.GoodWindow(windowOf(n, 0, 1, 1)) != place || impl.GoodWindow(windowOf(0, n, 1, 1)) != place {
			t.Errorf("GoodWindow with X or Y %d: not %v", n, place)
		}
		if impl.GoodWindow(windowOf(0, 0, n, 1)) != wide || impl.GoodWindow(windowOf(0, 0, 1, n)) != wide {
			t.Errorf("GoodWindow with W or H %d: not %v", n, wide)
		}
	}
}

type shareRow struct {
	why, ring string
	x, y      int
	want      string
}

func shareRows() []shareRow {
	square, within := "0,0 4,0 4,4 0,4", "1/4,1/4 3/4,1/4 1/2,3/4"
	return []shareRow{
		{"no point", "", 0, 0, "0"},
		{"one point within", "1/2,1/3", 0, 0, "0"},
		{"two points", "0,0 1,1", 0, 0, "0"},
		{"a square within a greater one", square, 1, 2, "1"},
		{"a corner of a greater one", square, 0, 0, "1"},
		{"the far corner of a greater one", square, 3, 3, "1"},
		{"to the right", "0,4 4,4 4,0 0,0", 1, 2, "-1"},
		{"along the left edge, without", square, -1, 2, "0"},
		{"along the right edge, without", square, 4, 2, "0"},
		{"along the upper edge, without", square, 2, 4, "0"},
		{"along the lower edge, without", square, 2, -1, "0"},
		{"at a corner, without", square, 4, 4, "0"},
		{"wholly without", square, 7, -9, "0"},
		{"the square itself", "0,0 1,0 1,1 0,1", 0, 0, "1"},
		{"the square itself, below 0", "-1,-1 0,-1 0,0 -1,0", -1, -1, "1"},
		{"the square itself, to the right", "-1,0 0,0 0,-1 -1,-1", -1, -1, "-1"},
		{"wholly within", within, 0, 0, "1/8"},
		{"wholly within, to the right", "1/2,3/4 3/4,1/4 1/4,1/4", 0, 0, "-1/8"},
		{"wholly within the next one", within, 1, 0, "0"},
		{"half of it", "0,0 2,0 0,2", 1, 0, "1/2"},
		{"the other half", "0,0 2,0 0,2", 0, 1, "1/2"},
		{"beyond the slope", "0,0 2,0 0,2", 1, 1, "0"},
		{"a slope through two squares", "0,0 3,0 0,3/2", 1, 0, "3/4"},
		{"a slope through two squares, the lesser part", "0,0 3,0 0,3/2", 0, 1, "1/4"},
		{"thirds", "0,0 1/3,0 1/3,1 0,1", 0, 0, "1/3"},
		{"a triangle of fractions", "-1/2,-1/2 1/2,-1/2 0,3/2", 0, 0, "1/4"},
		{"a triangle of fractions, its top", "-1/2,-1/2 1/2,-1/2 0,3/2", -1, 1, "1/32"},
		{"a triangle of fractions, below", "-1/2,-1/2 1/2,-1/2 0,3/2", 0, -1, "7/32"},
		{"twice round", "0,0 4,0 4,4 0,4 0,0 4,0 4,4 0,4", 1, 1, "2"},
		{"once to the left, once to the right", "0,0 4,0 4,4 0,4 0,0 0,4 4,4 4,0", 1, 1, "0"},
		{"crosses itself within the square", "0,0 1,1 1,0 0,1", 0, 0, "0"},
		{"crosses itself, the part to the right", "0,0 2,2 2,0 0,2", 1, 0, "-1/2"},
		{"crosses itself, the part to the left", "0,0 2,2 2,0 0,2", 0, 1, "1/2"},
		{"a star, its middle gone round twice, to the right", "0,3 6,3 1,0 3,5 5,0", 2, 2, "-39/20"},
		{"no corner in the square", "-9,-9 9,-9 0,9", 0, 0, "1"},
		{"all corners far away", "-1000,-1000 1000,-1000 1000,1000 -1000,1000", 0, 0, "1"},
		{"a needle", "-10,1/2 10,1/3 10,2/3", 0, 0, "7/40"},
	}
}

func TestShareWrittenOut(t *testing.T) {
	for _, c := range shareRows() {
		l := curveFrom(c.ring)
		share, ok := impl.ShareOf(l, c.x, c.y)
		wantRat(t, c.why+": ShareOf "+c.ring, share, ok, plainRat(ratFrom(c.want)))
		shares, ok := impl.SharesIn(l, windowOf(c.x, c.y, 1, 1))
		if !ok || !samePoly(shares, ratsFrom(c.want)) {
			t.Errorf("%s: SharesIn %s: %v %v", c.why, c.ring, shares, ok)
		}
	}
}

func TestShareOfAll(t *testing.T) {
	r := fixed(190)
	many := map[bool]int{}
	for _, l := range ringsInReach(r) {
		for range 3 {
			for _, p := range squaresRowByRow(windowAbout(r, l)) {
				many[checkShare(t, l, p.X, p.Y)]++
			}
		}
		many[checkShare(t, l, 0, 0)]++
		many[checkShare(t, l, -1, -1)]++
	}
	if many[true] < 2000 || many[false] < 100 {
		t.Error("told and not:", many)
	}
}

// Squares reach from the least place to the last square of the farthest window.
func TestShareAtTheFarthestSquares(t *testing.T) {
	all, ok := impl.RingOf(wayOf(-far, -far, far, -far, far, far, -far, far))
	if !ok {
		t.Fatal("RingOf: refused")
	}
	one := big.NewRat(1, 1)
	for n := -99; n <= 99; n++ {
		good := n >= -impl.MaxPlace && n <= lastSquare
		for _, p := range wayOf(n, 0, 0, n, n, n, n, lastSquare, -impl.MaxPlace, n) {
			share, ok := impl.ShareOf(all, p.X, p.Y)
			if ok != good {
				t.Fatalf("ShareOf at %v: %v", p, ok)
			}
			if good {
				wantRat(t, "ShareOf all", share, ok, one)
			}
		}
	}
	// Just one square of the grid is covered.
	for _, x := range []int{-impl.MaxPlace, 0, lastSquare} {
		for _, y := range []int{-impl.MaxPlace, -1, lastSquare} {
			l := ringFrom(wayOf(x, y, x+1, y, x+1, y+1, x, y+1))
			checkShare(t, l, x, y)
			share, ok := impl.ShareOf(l, x, y)
			wantRat(t, "ShareOf the square itself", share, ok, one)
			checkShare(t, l, max(x-1, -impl.MaxPlace), y)
			checkShare(t, l, x, min(y+1, lastSquare))
		}
	}
}

type sharesRow struct {
	why, ring string
	w         impl.Window
	want      string
}

func sharesRows() []sharesRow {
	return []sharesRow{
		{"no point", "", windowOf(-20, 20, 2, 2), "0 0 0 0"},
		{"one square", "0,0 4,0 4,4 0,4", windowOf(3, 3, 1, 1), "1"},
		{"a row", "0,0 2,0 0,2", windowOf(-1, 0, 4, 1), "0 1 1/2 0"},
		{"a column", "0,0 3,0 0,3", windowOf(1, -1, 1, 4), "0 1 1/2 0"},
		{"wider than high", "0,0 3,0 3,1 2,2 0,2", windowOf(0, 0, 3, 2), "1 1 1 1 1 1/2"},
		{"higher than wide", "0,0 2,0 2,3 1,3 0,2", windowOf(0, 0, 2, 3), "1 1 1 1 1/2 1"},
		{"each square has a share of its own", "0,0 3,0 3,1/2 0,3/2", windowOf(0, 0, 3, 2), "1 23/24 2/3 1/3 1/24 0"},
		{"the same by Y", "0,0 3/2,0 1/2,3 0,3", windowOf(0, 0, 2, 3), "1 1/3 23/24 1/24 2/3 0"},
		{"about 0, 0", "-3/2,-1/2 1/2,-1/2 1/2,1/2 -3/2,1/2", windowOf(-2, -1, 3, 2), "1/4 1/2 1/4 1/4 1/2 1/4"},
		{"about 0, 0, to the right", "-3/2,1/2 1/2,1/2 1/2,-1/2 -3/2,-1/2", windowOf(-2, -1, 3, 2), "-1/4 -1/2 -1/4 -1/4 -1/2 -1/4"},
		{"a part of a ring", "0,0 9,0 9,9 0,9", windowOf(8, 7, 2, 3), "1 0 1 0 0 0"},
		{"along the edges of squares", "1,1 3,1 3,2 1,2", windowOf(0, 0, 4, 3), "0 0 0 0 0 1 1 0 0 0 0 0"},
		{"within one square", "5/4,5/4 7/4,5/4 7/4,7/4 5/4,7/4", windowOf(0, 0, 3, 3), "0 0 0 0 1/4 0 0 0 0"},
		{"wholly without", "9,9 11,9 11,11 9,11", windowOf(0, 0, 3, 2), "0 0 0 0 0 0"},
		{"at the least corner of all", "-20,-20 -19,-20 -19,-37/2 -20,-37/2", windowOf(-20, -20, 2, 3), "1 0 1/2 0 0 0"},
		{"at the greatest corner of all", "26,27 28,27 28,28 55/2,28", windowOf(20, 20, 8, 8), "0 0 0 0 0 0 0 0 0 0 0 0 0 0 0 0 0 0 0 0 0 0 0 0 0 0 0 0 0 0 0 0 0 0 0 0 0 0 0 0 0 0 0 0 0 0 0 0 0 0 0 0 0 0 0 0 0 0 0 0 0 0 1/3 11/12"},
	}
}

func TestSharesWrittenOut(t *testing.T) {
	for _, c := range sharesRows() {
		shares, ok := impl.SharesIn(curveFrom(c.ring), c.w)
		if !ok || !samePoly(shares, ratsFrom(c.want)) {
			t.Errorf("%s: SharesIn %s %v: %v %v, want %s", c.why, c.ring, c.w, shares, ok, c.want)
		}
	}
}

func TestSharesAreThoseOfEachSquare(t *testing.T) {
	r := fixed(191)
	many := map[bool]int{}
	for _, l := range ringsInReach(r) {
		many[checkShares(t, l, windowAbout(r, l))]++
		many[checkShares(t, l, someWindow(r))]++
	}
	wide := ringFrom(wayOf(-30, -25, 33, -30, 29, 31, -28, 29))
	for _, w := range edgeWindows() {
		if !checkShares(t, wide, w) {
			t.Errorf("SharesIn %v: refused", w)
		}
	}
	if many[true] < 150 || many[false] < 5 {
		t.Error("told and not:", many)
	}
}

// Each square alone is covered in its turn: the share stands where its row and its column say.
func TestSharesRowByRow(t *testing.T) {
	for _, w := range append(edgeWindows(), windowOf(-3, 5, 2, 7), windowOf(4, -6, 7, 2), windowOf(-1, -1, 3, 2)) {
		for i, p := range squaresRowByRow(w) {
			l := ringFrom(wayOf(p.X, p.Y, p.X+1, p.Y, p.X+1, p.Y+1, p.X, p.Y+1))
			shares, ok := impl.SharesIn(l, w)
			if !ok || len(shares) != w.W*w.H {
				t.Fatalf("SharesIn %v: %d shares, %v", w, len(shares), ok)
			}
			for j, a := range shares {
				if want := ratFrom("0"); j != i && !sameRat(a, want) || j == i && !sameRat(a, ratFrom("1")) {
					t.Fatalf("SharesIn %v with %v covered: share %d is %v", w, p, j, a)
				}
			}
		}
	}
}

func TestByteWrittenOut(t *testing.T) {
	for _, c := range []struct {
		a    string
		want int
	}{
		{"0", 0}, {"1", 255}, {"-1", 255}, {"2", 255}, {"-2", 255}, {"3/2", 255}, {"-7/3", 255}, {"256/255", 255}, {"1000000007", 255}, {"-1000000007/3", 255},
		{"1/2", 128}, {"-1/2", 128}, {"1/3", 85}, {"-1/3", 85}, {"2/3", 170}, {"1/4", 64}, {"3/4", 191}, {"-3/4", 191}, {"1/255", 1}, {"-1/255", 1}, {"254/255", 254}, {"127/255", 127},
		{"1/510", 1}, {"1/511", 0}, {"1/509", 1}, {"-1/510", 1}, {"-1/511", 0}, {"509/510", 255}, {"508/510", 254}, {"1017/1020", 254}, {"1019/1020", 255}, {"3/510", 2}, {"-5/510", 3},
		{"253/510", 127}, {"255/510", 128}, {"257/510", 129}, {"999999/1000000", 255}, {"-999999/1000000", 255}, {"997/1000", 254}, {"1/1000000007", 0},
	} {
		b, ok := impl.ByteOf(ratFrom(c.a))
		wantCount(t, "ByteOf "+c.a, b, ok, c.want)
	}
}

// Just a half behind the whole part goes up; a little less goes down. Of 255 times the share, each half, each whole one, and what lies next to them, near and as near as can be.
func TestByteAtAllHalves(t *testing.T) {
	gaps := []*big.Rat{new(big.Rat), big.NewRat(1, 3), big.NewRat(1, 1<<40)}
	// 255 times it a half less or more still fits MaxLimbs.
	for _, n := range []uint{100, 16*impl.MaxLimbs - 10} {
		gaps = append(gaps, new(big.Rat).SetFrac(big.NewInt(1), new(big.Int).Lsh(big.NewInt(1), n)))
	}
	for halves := range 2*255 + 3 {
		for _, gap := range gaps {
			for _, sign := range []int64{-1, 1} {
				times := new(big.Rat).Add(big.NewRat(int64(halves), 2), new(big.Rat).Mul(gap, big.NewRat(sign, 1)))
				a := fromPlainRat(times.Mul(times, big.NewRat(1, 255)))
				if !checkByte(t, a) || !checkByte(t, turnedRat(a)) {
					t.Fatalf("ByteOf %v: refused", a)
				}
				want := (halves + 1) / 2
				if halves%2 == 1 && sign < 0 && gap.Sign() > 0 {
					want--
				}
				b, ok := impl.ByteOf(a)
				wantCount(t, "ByteOf "+ratText(t, a), b, ok, min(want, 255))
			}
		}
	}
}

func TestByteOfAll(t *testing.T) {
	r := fixed(192)
	many := map[bool]int{}
	for _, a := range append(append(edgeRats(), edgeRingRats()...), smallRats(t, 12)...) {
		many[checkByte(t, a)]++
	}
	for n := 1; n <= impl.MaxLimbs; n++ {
		for range 3 {
			a := someRat(r, n)
			many[checkByte(t, a)]++
			b, ok := impl.ByteOf(a)
			other, is := impl.ByteOf(turnedRat(a))
			if b != other || ok != is {
				t.Fatalf("ByteOf %v: %d %v, below 0 %d %v", a, b, ok, other, is)
			}
		}
	}
	// As long as may be: most of them are too long on the way.
	for range 40 {
		long := new(big.Rat).SetFrac(plain(someBig(r, impl.MaxLimbs)), plain(someBig(r, impl.MaxLimbs)))
		many[checkByte(t, fromPlainRat(long))]++
	}
	if many[true] < 300 || many[false] < 9 {
		t.Error("told and not:", many)
	}
}

func TestSumWrittenOut(t *testing.T) {
	for _, c := range []struct{ why, all, want string }{
		{"none", "", "0"},
		{"one", "-5/3", "-5/3"},
		{"one that is 0", "0", "0"},
		{"two", "1/2 1/3", "5/6"},
		{"two that are shortened", "1/6 1/3", "1/2"},
		{"two that leave nothing", "1/2 -1/2", "0"},
		{"three", "1/2 1/3 1/6", "1"},
		{"signs by turns", "1 -1/2 1/3 -1/4", "7/12"},
		{"below 0", "-1/2 -2/3", "-7/6"},
		{"alike", "1/7 1/7 1/7 1/7 1/7 1/7 1/7", "1"},
		{"noughts", "0 0 0", "0"},
	} {
		sum, ok := impl.SumOf(ratsFrom(c.all))
		wantRat(t, c.why+": SumOf "+c.all, sum, ok, plainRat(ratFrom(c.want)))
	}
}

func TestSumOfMany(t *testing.T) {
	r := fixed(193)
	for n := range mostSummed + 4 {
		all := make([]impl.Rat, n)
		for i := range all {
			all[i] = smallRat(r, 99, 9)
		}
		if told := checkSumOf(t, all); told != (n <= mostSummed) {
			t.Errorf("SumOf %d: %v", n, told)
		}
		sum, ok := impl.SumOf(slices.Repeat([]impl.Rat{ratFrom("-1/64")}, n))
		if n <= mostSummed {
			wantRat(t, "SumOf alike", sum, ok, big.NewRat(int64(-n), mostSummed))
		} else if ok {
			t.Errorf("SumOf %d: %v", n, sum)
		}
	}
	many := map[bool]int{}
	for range 200 {
		all := make([]impl.Rat, r.IntN(9))
		for i := range all {
			all[i] = someRat(r, 1+r.IntN(10))
		}
		many[checkSumOf(t, all)]++
	}
	for _, a := range edgeRats() {
		for _, b := range edgeRats() {
			many[checkSumOf(t, []impl.Rat{a, b})]++
			many[checkSumOf(t, []impl.Rat{a, b, turnedRat(a)})]++
		}
	}
	if many[true] < 1000 || many[false] < 100 {
		t.Error("told and not:", many)
	}
}

func TestBytesWrittenOut(t *testing.T) {
	for _, c := range []struct {
		why, ring string
		w         impl.Window
		want      []int
	}{
		{"no point", "", windowOf(1, 1, 2, 1), []int{0, 0}},
		{"all, a half, none", "0,0 2,0 0,2", windowOf(0, 0, 2, 2), []int{255, 128, 128, 0}},
		{"to the right", "0,2 2,0 0,0", windowOf(0, 0, 2, 2), []int{255, 128, 128, 0}},
		{"thirds", "0,0 1/3,0 1/3,3 0,3", windowOf(0, 2, 2, 1), []int{85, 0}},
		{"twice round is no more than all", "0,0 2,0 2,1 0,1 0,0 2,0 2,1 0,1", windowOf(1, 0, 2, 2), []int{255, 0, 0, 0}},
		{"wider than high", "0,0 3,0 3,1/2 0,3/2", windowOf(0, 0, 3, 2), []int{255, 244, 170, 85, 11, 0}},
		{"higher than wide", "0,0 3/2,0 1/2,3 0,3", windowOf(0, 0, 2, 3), []int{255, 85, 244, 11, 170, 0}},
	} {
		bytes, ok := impl.BytesIn(curveFrom(c.ring), c.w)
		wantInts(t, c.why+": BytesIn "+c.ring, c.w, bytes, ok, c.want)
	}
}

func TestBytesOfAll(t *testing.T) {
	r := fixed(194)
	many := map[bool]int{}
	for _, l := range ringsInReach(r) {
		many[checkBytes(t, l, windowAbout(r, l))]++
		many[checkBytes(t, l, someWindow(r))]++
	}
	for _, w := range edgeWindows() {
		many[checkBytes(t, ringFrom(wayOf(-30, -25, 33, -30, 29, 31, -28, 29)), w)]++
	}
	if many[true] < 150 || many[false] < 5 {
		t.Error("told and not:", many)
	}
}

// numbered are as many bytes as there are squares, each unlike the others.
func numbered(w impl.Window) []int {
	all := make([]int, w.W*w.H)
	for i := range all {
		all[i] = 3*i + 1
	}
	return all
}

func TestCropWrittenOut(t *testing.T) {
	w := windowOf(-2, 5, 3, 2)
	bytes := []int{1, 2, 3, 4, 5, 6}
	for _, c := range []struct {
		why  string
		part impl.Window
		want []int
	}{
		{"the whole", w, bytes},
		{"the first square", windowOf(-2, 5, 1, 1), []int{1}},
		{"the last square of the first row", windowOf(0, 5, 1, 1), []int{3}},
		{"the first square of the last row", windowOf(-2, 6, 1, 1), []int{4}},
		{"the last square", windowOf(0, 6, 1, 1), []int{6}},
		{"the first row", windowOf(-2, 5, 3, 1), []int{1, 2, 3}},
		{"the last row", windowOf(-2, 6, 3, 1), []int{4, 5, 6}},
		{"the first column", windowOf(-2, 5, 1, 2), []int{1, 4}},
		{"the last column", windowOf(0, 5, 1, 2), []int{3, 6}},
		{"two columns", windowOf(-1, 5, 2, 2), []int{2, 3, 5, 6}},
	} {
		part, ok := impl.CropOf(w, bytes, c.part)
		wantInts(t, c.why+": CropOf", c.part, part, ok, c.want)
	}
}

// Each part that lies within is told, each that stands out by one, or by more, is none.
func TestCropOfAllParts(t *testing.T) {
	r := fixed(195)
	for _, w := range append(edgeWindows(), windowOf(-3, 5, 2, 7), windowOf(4, -6, 7, 2)) {
		for _, bytes := range [][]int{numbered(w), someBytes(r, w)} {
			for i, n := range bytes {
				bytes[i] = n % 256
			}
			for range 60 {
				part := windowOf(w.X-1+r.IntN(w.W+2), w.Y-1+r.IntN(w.H+2), 1+r.IntN(w.W), 1+r.IntN(w.H))
				checkCrop(t, w, bytes, part)
			}
			checkCrop(t, w, bytes, w)
			for _, p := range squaresRowByRow(w) {
				checkCrop(t, w, bytes, windowOf(p.X, p.Y, 1, 1))
			}
			for _, by := range wayOf(-1, 0, 1, 0, 0, -1, 0, 1, -impl.MaxWindow, 0, 0, impl.MaxWindow) {
				checkCrop(t, w, bytes, windowOf(w.X+by.X, w.Y+by.Y, w.W, w.H))
				checkCrop(t, w, bytes, windowOf(w.X+by.X, w.Y+by.Y, 1, 1))
			}
			checkCrop(t, w, bytes, windowOf(w.X, w.Y, w.W+1, w.H))
			checkCrop(t, w, bytes, windowOf(w.X, w.Y, w.W, w.H+1))
		}
	}
}

func checkCrop(t *testing.T, w impl.Window, bytes []int, part impl.Window) {
	t.Helper()
	cropped, ok := impl.CropOf(w, bytes, part)
	want := plainCrop(w, bytes, part)
	if !isGoodWindow(part) || len(want) != part.W*part.H {
		if ok || len(cropped) > 0 {
			t.Fatalf("CropOf %v to %v: %v %v, want the zero answer", w, part, cropped, ok)
		}
		return
	}
	wantInts(t, "CropOf", []impl.Window{w, part}, cropped, ok, want)
}

func isGoodWindow(w impl.Window) bool {
	place := max(away(w.X), away(w.Y)) <= impl.MaxPlace
	return place && min(w.W, w.H) >= 1 && max(w.W, w.H) <= impl.MaxWindow
}

// A window that is good may stand out of one at the edge, and one within may be none.
func TestCropAtTheEdgeOfAll(t *testing.T) {
	w := windowOf(impl.MaxPlace, impl.MaxPlace, impl.MaxWindow, impl.MaxWindow)
	bytes := numbered(w)
	cropped, ok := impl.CropOf(w, bytes, windowOf(impl.MaxPlace, impl.MaxPlace, 2, 1))
	wantInts(t, "CropOf", w, cropped, ok, bytes[:2])
	// Its squares are those of the window, but X is beyond all places.
	wantZero(t, impl.CropOf, w, bytes, windowOf(impl.MaxPlace+1, impl.MaxPlace, 1, 1))
	wantZero(t, impl.CropOf, w, bytes, windowOf(impl.MaxPlace, impl.MaxPlace+1, 1, 1))
	for _, at := range []int{math.MinInt, math.MaxInt, math.MaxInt - 1} {
		wantZero(t, impl.CropOf, w, bytes, windowOf(at, impl.MaxPlace, 1, 1))
		wantZero(t, impl.CropOf, w, bytes, windowOf(impl.MaxPlace, impl.MaxPlace, at, 1))
	}
}
