package tests

import (
	"math/big"
	"math/rand/v2"
	"slices"
	"testing"

	"loop.example/g00409/impl"
)

// checkTogetherIn: promise 14, all squares of a window have together what the ring has in it, which is told by one box of the window's own corners, and by what lies between the segments and the window's least Y. It answers whether all is told.
func checkTogetherIn(t *testing.T, l []impl.RPt, w impl.Window) bool {
	t.Helper()
	shares, ok := impl.SharesIn(l, w)
	lo, hi := cornerRPts(w)
	part, is := impl.ClipBox(l, lo, hi)
	if !ok || !is {
		return false
	}
	area, ok := impl.RingArea(part)
	if !ok {
		return false
	}
	together := new(big.Rat)
	for _, a := range shares {
		together.Add(together, plainRat(a))
	}
	if together.Cmp(plainRat(area)) != 0 || together.Cmp(plainCovered(l, w)) != 0 {
		t.Fatalf("the squares of %v have %v of %s together, the window has %s of it", w, together, curveText(t, l), ratText(t, area))
	}
	sum, ok := impl.SumOf(shares)
	if ok {
		wantRat(t, "SumOf SharesIn", sum, ok, plainRat(area))
	}
	return ok
}

func TestPromise14SquaresOfAWindow(t *testing.T) {
	r := fixed(196)
	many := map[bool]int{}
	for _, l := range ringsInReach(r) {
		many[checkTogetherIn(t, l, windowAbout(r, l))]++
		many[checkTogetherIn(t, l, someWindow(r))]++
		many[checkTogetherIn(t, l, windowOf(-4, -4, impl.MaxWindow, impl.MaxWindow))]++
	}
	for range 60 {
		l := smallCurve(r, r.IntN(9), 9, 6)
		many[checkTogetherIn(t, l, someWindow(r))]++
		many[checkTogetherIn(t, backwardsCurve(l), someWindow(r))]++
	}
	if many[true] < 350 {
		t.Error("told and not:", many)
	}
}

func TestPromise14FarthestWindows(t *testing.T) {
	r := fixed(197)
	for _, w := range edgeWindows() {
		for range 3 {
			l := movedRing(smallCurve(r, 3+r.IntN(4), 9, 3), w.X, w.Y)
			if !checkTogetherIn(t, l, w) {
				t.Errorf("%v of %v: refused", w, l)
			}
		}
	}
}

func movedRing(l []impl.RPt, x, y int) []impl.RPt {
	all := plainPts(l)
	for i, p := range all {
		all[i] = plainPt{new(big.Rat).Add(p.x, big.NewRat(int64(x), 1)), new(big.Rat).Add(p.y, big.NewRat(int64(y), 1))}
	}
	return fromPlainPts(all)
}

// Moved by whole steps with its window a ring has the same shares.
func TestPromise14Moved(t *testing.T) {
	r := fixed(198)
	for range 40 {
		l, w := smallCurve(r, 3+r.IntN(5), 5, 4), windowOf(r.IntN(7)-5, r.IntN(7)-5, 1+r.IntN(4), 1+r.IntN(4))
		x, y := r.IntN(25)-12, r.IntN(25)-12
		shares, ok := impl.SharesIn(l, w)
		moved, is := impl.SharesIn(movedRing(l, x, y), windowOf(w.X+x, w.Y+y, w.W, w.H))
		if !ok || !is || !samePoly(shares, moved) {
			t.Fatalf("SharesIn %v: %v %v, moved by %d %d: %v %v", w, shares, ok, x, y, moved, is)
		}
	}
}

// Of a ring that lies within the window all squares have all of it.
func TestPromise14AllWithin(t *testing.T) {
	r := fixed(199)
	w := windowOf(-4, -3, 7, 6)
	for range 60 {
		l := smallCurve(r, 3+r.IntN(4), 3, 5)
		if !checkTogetherIn(t, l, w) {
			t.Fatalf("%v: refused", l)
		}
		shares, _ := impl.SharesIn(l, w)
		sum, ok := impl.SumOf(shares)
		wantRat(t, "SumOf SharesIn all within", sum, ok, areaPlainly(t, l))
	}
	for _, way := range append(simpleWays(), windingWays()...) {
		l, ok := impl.RingOf(way)
		least, greatest, is := impl.BoxOf(way)
		if !ok || !is || greatest.X-least.X > impl.MaxWindow || greatest.Y-least.Y > impl.MaxWindow || max(away(least.X), away(least.Y)) > impl.MaxPlace {
			continue
		}
		shares, ok := impl.SharesIn(l, windowOf(least.X, least.Y, impl.MaxWindow, impl.MaxWindow))
		sum, is := impl.SumOf(shares)
		if !ok || !is {
			t.Fatalf("SharesIn %v: refused", way)
		}
		wantRat(t, "SumOf SharesIn a way", sum, is, areaPlainly(t, l))
	}
}

// The flipped ring has the same shares with the other sign, and the same bytes.
func TestPromise14Flipped(t *testing.T) {
	r := fixed(200)
	for range 60 {
		l, w := smallCurve(r, 3+r.IntN(6), 6, 3), someWindow(r)
		back, ok := impl.FlipRing(l)
		shares, told := impl.SharesIn(l, w)
		others, is := impl.SharesIn(back, w)
		if !ok || told != is || len(shares) != len(others) {
			t.Fatalf("SharesIn %v %v: %v %v, flipped %v %v", l, w, shares, told, others, is)
		}
		for i := range shares {
			if !sameRat(shares[i], turnedRat(others[i])) {
				t.Fatalf("SharesIn %v %v: %v, flipped %v", l, w, shares, others)
			}
		}
		bytes, _ := impl.BytesIn(l, w)
		same, _ := impl.BytesIn(back, w)
		if !slices.Equal(bytes, same) {
			t.Fatalf("BytesIn %v %v: %v, flipped %v", l, w, bytes, same)
		}
	}
}

// Two parts of a window, side by side or one above the other, have together what the whole has.
func TestPromise14PartsOfAWindow(t *testing.T) {
	r := fixed(201)
	sumIn := func(l []impl.RPt, w impl.Window) *big.Rat {
		shares, ok := impl.SharesIn(l, w)
		sum, is := impl.SumOf(shares)
		if !ok || !is {
			t.Fatalf("SharesIn %v %v: refused", l, w)
		}
		return plainRat(sum)
	}
	for range 60 {
		l, w := smallCurve(r, 3+r.IntN(5), 7, 3), windowOf(r.IntN(9)-7, r.IntN(9)-7, 2+r.IntN(6), 2+r.IntN(6))
		x, y := 1+r.IntN(w.W-1), 1+r.IntN(w.H-1)
		all := sumIn(l, w)
		sides := new(big.Rat).Add(sumIn(l, windowOf(w.X, w.Y, x, w.H)), sumIn(l, windowOf(w.X+x, w.Y, w.W-x, w.H)))
		rows := new(big.Rat).Add(sumIn(l, windowOf(w.X, w.Y, w.W, y)), sumIn(l, windowOf(w.X, w.Y+y, w.W, w.H-y)))
		if sides.Cmp(all) != 0 || rows.Cmp(all) != 0 {
			t.Fatalf("%v of %v has %v, its sides %v, its rows %v", w, l, all, sides, rows)
		}
	}
}

// checkNearest: promise 14, no other byte is nearer to 255 times how far a share is from 0, and none that is as near is greater. It answers whether a byte is told.
func checkNearest(t *testing.T, a impl.Rat) bool {
	t.Helper()
	b, ok := impl.ByteOf(a)
	if !ok {
		return false
	}
	times := times255(plainRat(a))
	for n := range 256 {
		if near := awayFrom(times, n).Cmp(awayFrom(times, b)); near < 0 || near == 0 && n > b {
			t.Fatalf("ByteOf %s: %d, but %d is nearer, or as near and greater", ratText(t, a), b, n)
		}
	}
	if b < 0 || b > 255 {
		t.Fatalf("ByteOf %s: %d", ratText(t, a), b)
	}
	return true
}

func TestPromise14BytesAreNearest(t *testing.T) {
	r := fixed(202)
	all := append(smallRats(t, 7), edgeRats()...)
	for n := -260; n <= 260; n += 3 {
		all = append(all, fromPlainRat(big.NewRat(int64(n), 255)), fromPlainRat(big.NewRat(int64(2*n+1), 510)), fromPlainRat(big.NewRat(int64(n), 256)))
	}
	for range 100 {
		all = append(all, smallRat(r, 999, 999), someRat(r, 1+r.IntN(12)))
	}
	many := map[bool]int{}
	for _, a := range all {
		many[checkNearest(t, a)]++
	}
	if many[true] < 700 {
		t.Error("told and not:", many)
	}
}

func TestPromise14BytesOfSharesAreNearest(t *testing.T) {
	r := fixed(203)
	many := 0
	for range 40 {
		l, w := smallCurve(r, 3+r.IntN(5), 5, 5), windowOf(r.IntN(5)-4, r.IntN(5)-4, 1+r.IntN(4), 1+r.IntN(4))
		shares, ok := impl.SharesIn(l, w)
		bytes, is := impl.BytesIn(l, w)
		if !ok || !is || len(bytes) != len(shares) {
			t.Fatalf("BytesIn %v %v: %v %v of %v %v", l, w, bytes, is, shares, ok)
		}
		for i, a := range shares {
			b, told := impl.ByteOf(a)
			wantCount(t, "ByteOf", b, told, bytes[i])
			if checkNearest(t, a) {
				many++
			}
		}
	}
	if many < 100 {
		t.Error("too few are told:", many)
	}
}

// Bytes rise with their shares, and 0 and 1 have the first and the last one.
func TestPromise14BytesRise(t *testing.T) {
	last := -1
	for n := range 2041 {
		b, ok := impl.ByteOf(fromPlainRat(big.NewRat(int64(n), 2040)))
		if !ok || b < last || b > last+1 {
			t.Fatalf("ByteOf %d/2040: %d %v behind %d", n, b, ok, last)
		}
		last = b
	}
	if last != 255 {
		t.Error("the last one is", last)
	}
}

// A part of a window's bytes is what the part itself has.
func TestPromise14Crops(t *testing.T) {
	r := fixed(204)
	for range 60 {
		l, w := smallCurve(r, 3+r.IntN(6), 6, 3), someWindow(r)
		part := somePart(r, w)
		bytes, ok := impl.BytesIn(l, w)
		want, is := impl.BytesIn(l, part)
		if !ok || !is {
			t.Fatalf("BytesIn %v %v: refused", l, w)
		}
		cropped, ok := impl.CropOf(w, bytes, part)
		wantInts(t, "CropOf BytesIn", []impl.Window{w, part}, cropped, ok, want)
	}
}

// somePart lies within a window, and begins at a place, which not all squares of the farthest windows are.
func somePart(r *rand.Rand, w impl.Window) impl.Window {
	x, y := min(r.IntN(w.W), impl.MaxPlace-w.X), min(r.IntN(w.H), impl.MaxPlace-w.Y)
	return windowOf(w.X+x, w.Y+y, 1+r.IntN(w.W-x), 1+r.IntN(w.H-y))
}
