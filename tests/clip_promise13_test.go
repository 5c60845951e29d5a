package tests

import (
	"math/big"
	"testing"

	"loop.example/g00409/impl"
)

// checkTogether: promise 13, both sides of a cut have together what the ring has; and each has what lies between its segments and an axis on that side. It answers whether all is told.
func checkTogether(t *testing.T, l []impl.RPt, byY bool, at impl.Rat) bool {
	t.Helper()
	low, ok := impl.ClipLow(l, byY, at)
	high, is := impl.ClipHigh(l, byY, at)
	if !ok || !is {
		return false
	}
	all, allTold := impl.RingArea(l)
	lowArea, lowTold := impl.RingArea(low)
	highArea, highTold := impl.RingArea(high)
	if !allTold || !lowTold || !highTold {
		return false
	}
	both, told := impl.AddRat(lowArea, highArea)
	wantRat(t, "both sides of "+curveText(t, l)+" at "+ratText(t, at), both, told, plainRat(all))
	for _, s := range []look{{byY, false}, {byY, true}} {
		part := lowArea
		if s.high {
			part = highArea
		}
		wantRat(t, "the area of "+s.name()+curveText(t, l)+" at "+ratText(t, at), part, true, s.plainAreaOf(l, at))
	}
	return true
}

func TestPromise13BothSidesOfEdges(t *testing.T) {
	r := fixed(174)
	many := map[bool]int{}
	for _, l := range ringsOfAll(r) {
		for _, at := range append(cutsAmong(l), edgeDraws()...) {
			many[checkTogether(t, l, false, at)]++
			many[checkTogether(t, l, true, at)]++
		}
	}
	if many[true] < 4000 {
		t.Error("told and not:", many)
	}
}

func TestPromise13BothSidesOfSome(t *testing.T) {
	r := fixed(175)
	many := map[bool]int{}
	for range 600 {
		l, at := smallCurve(r, r.IntN(27), 9, 4), smallRat(r, 9, 4)
		many[checkTogether(t, l, false, at)]++
		many[checkTogether(t, l, true, at)]++
		few := someCurve(r, r.IntN(5), 1)
		many[checkTogether(t, few, r.IntN(2) == 0, someRat(r, 1))]++
	}
	if many[true] < 1000 {
		t.Error("told and not:", many)
	}
}

// Ways of chapter 8, round to either side, at each whole cut and between two such.
func TestPromise13Ways(t *testing.T) {
	for _, way := range append(simpleWays(), windingWays()...) {
		for _, l := range [][]impl.Pt{way, backwards(way)} {
			ring, ok := impl.RingOf(l)
			if !ok {
				t.Fatalf("RingOf %v: refused", l)
			}
			for halves := -4; halves <= 22; halves++ {
				at := fromPlainRat(big.NewRat(int64(halves), 2))
				if !checkTogether(t, ring, false, at) || !checkTogether(t, ring, true, at) {
					t.Fatalf("a cut of %v at %v: refused", l, at)
				}
			}
		}
	}
}

// The flipped ring has as much below 0, and so has each side of it.
func TestPromise13Flipped(t *testing.T) {
	r := fixed(176)
	for range 100 {
		l, at := smallCurve(r, r.IntN(25), 9, 3), smallRat(r, 9, 3)
		back, ok := impl.FlipRing(l)
		if !ok {
			t.Fatalf("FlipRing %v: refused", l)
		}
		if got, want := areaPlainly(t, back), areaPlainly(t, l); got.Cmp(want.Neg(want)) != 0 {
			t.Fatalf("%v flipped has %v, not %v", l, got, want)
		}
		for _, s := range sidesOfCuts() {
			one, ok := s.clip(l, at)
			other, is := s.clip(back, at)
			if ok != is || len(one) != len(other) {
				t.Fatalf("%s%v: %v %v, flipped %v %v", s.name(), l, one, ok, other, is)
			}
			if got, want := areaPlainly(t, other), areaPlainly(t, one); got.Cmp(want.Neg(want)) != 0 {
				t.Fatalf("%s%v flipped has %v, not %v", s.name(), l, got, want)
			}
		}
	}
}

// Strips from cut to cut have together what the ring has: each side may be cut again.
func TestPromise13Strips(t *testing.T) {
	r := fixed(177)
	told := 0
	for range 100 {
		l, byY := smallCurve(r, r.IntN(14), 6, 2), r.IntN(2) == 0
		sum, left, ok := new(big.Rat), l, true
		for x := int64(-6); x <= 6 && ok; x += 2 {
			at := fromPlainRat(big.NewRat(x, 1))
			var low, high []impl.RPt
			var is bool
			low, is = impl.ClipLow(left, byY, at)
			high, ok = impl.ClipHigh(left, byY, at)
			if ok = ok && is; ok {
				sum.Add(sum, areaPlainly(t, low))
				left = high
			}
		}
		if !ok {
			continue
		}
		told++
		if sum.Add(sum, areaPlainly(t, left)).Cmp(areaPlainly(t, l)) != 0 {
			t.Fatalf("strips of %v have %v, not %v", l, sum, areaPlainly(t, l))
		}
	}
	if told < 80 {
		t.Error("too few are told:", told)
	}
}

// Nine boxes, the middle one and those round about, have together what the ring has.
func TestPromise13Boxes(t *testing.T) {
	r := fixed(178)
	told := 0
	for range 120 {
		l := smallCurve(r, r.IntN(20), 9, 3)
		xs := []impl.Rat{ratFrom("-99"), smallRat(r, 4, 3), ratFrom("9/2"), ratFrom("99")}
		ys := []impl.Rat{ratFrom("-99"), ratFrom("-9/2"), smallRat(r, 4, 3), ratFrom("99")}
		sum, many := new(big.Rat), 0
		for i := range 9 {
			x, y := i%3, i/3
			part, ok := impl.ClipBox(l, rpt(xs[x], ys[y]), rpt(xs[x+1], ys[y+1]))
			if ok {
				many++
				sum.Add(sum, areaPlainly(t, part))
			}
		}
		if many < 9 {
			continue
		}
		told++
		if sum.Cmp(areaPlainly(t, l)) != 0 {
			t.Fatalf("nine boxes of %v have %v, not %v", l, sum, areaPlainly(t, l))
		}
	}
	if told < 80 {
		t.Error("too few are told:", told)
	}
}

// Of an upright square a box has what lies in both.
func TestPromise13BoxesOfSquares(t *testing.T) {
	common := func(a, b, c, d int) int { return max(0, min(b, d)-max(a, c)) }
	square := curveFrom("0,0 4,0 4,4 0,4")
	for x := -2; x <= 5; x++ {
		for y := -2; y <= 5; y++ {
			for w := range 4 {
				for h := range 4 {
					lo, hi := ringFrom(wayOf(x, y))[0], ringFrom(wayOf(x+w, y+h))[0]
					part, ok := impl.ClipBox(square, lo, hi)
					want := big.NewRat(int64(common(0, 4, x, x+w)*common(0, 4, y, y+h)), 1)
					if !ok || areaPlainly(t, part).Cmp(want) != 0 {
						t.Fatalf("ClipBox from %v to %v: %v %v, want the area %v", lo, hi, part, ok, want)
					}
				}
			}
		}
	}
}

// Cuts in another order have the same area.
func TestPromise13OrderOfCuts(t *testing.T) {
	r := fixed(179)
	for range 150 {
		l, x, y := smallCurve(r, r.IntN(15), 6, 3), smallRat(r, 6, 3), smallRat(r, 6, 3)
		for _, high := range []bool{false, true} {
			byX, byY := look{false, high}, look{true, r.IntN(2) == 0}
			one, ok := byX.clip(l, x)
			other, is := byY.clip(l, y)
			if !ok || !is {
				continue
			}
			one, ok = byY.clip(one, y)
			other, is = byX.clip(other, x)
			if ok && is && areaPlainly(t, one).Cmp(areaPlainly(t, other)) != 0 {
				t.Fatalf("%v by X at %v, then by Y at %v: %v; the other way round: %v", l, x, y, one, other)
			}
		}
	}
}
