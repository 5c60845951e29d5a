package tests

import (
	"testing"

	"loop.example/g00409/impl"
)

// checkGoneRound: promise 9, crossings are odd just where one goes round an odd number of times; and both are what they are by quarters and by fractions.
func checkGoneRound(t *testing.T, l []impl.Pt, p impl.Pt, on map[impl.Pt]bool) round {
	t.Helper()
	if on[p] {
		return wantRound(t, l, p, true, 0, 0)
	}
	x := wantRound(t, l, p, false, plainWinding(l, p), plainCrossings(l, p))
	if (x.crossings%2 == 1) != (away(x.winding)%2 == 1) {
		t.Fatalf("%v at %v: %d crossings, %d times round", l, p, x.crossings, x.winding)
	}
	return x
}

// tally counts what was seen, so that no case is left out.
type tally struct {
	on, odd, even, evenNotNought, moreCrossings int
}

func (x *tally) add(seen round) {
	switch {
	case seen.on:
		x.on++
	case seen.crossings%2 == 1:
		x.odd++
	default:
		x.even++
		if seen.winding != 0 {
			x.evenNotNought++
		}
	}
	if seen.crossings > away(seen.winding) {
		x.moreCrossings++
	}
}

func (x *tally) wantAll(t *testing.T) {
	t.Helper()
	if x.on == 0 || x.odd == 0 || x.even == 0 || x.evenNotNought == 0 || x.moreCrossings == 0 {
		t.Errorf("points seen: %+v", *x)
	}
}

func TestPromise9EdgeWays(t *testing.T) {
	seen := tally{}
	for _, l := range windingWays() {
		on := ptsOn(l)
		for _, p := range aboutWay(l) {
			seen.add(checkGoneRound(t, l, p, on))
		}
	}
	seen.wantAll(t)
}

func TestPromise9AllSmallWays(t *testing.T) {
	seen := tally{}
	for _, c := range []struct{ corners, side int }{{3, 4}, {4, 3}} {
		about := inBox(pt(-1, -1), pt(c.side, c.side))
		eachWay(c.corners, c.side, func(l []impl.Pt) {
			on := ptsOn(l)
			for _, p := range about {
				seen.add(checkGoneRound(t, l, p, on))
			}
		})
	}
	if seen.on == 0 || seen.odd == 0 || seen.even == 0 || seen.moreCrossings == 0 {
		t.Errorf("points seen: %+v", seen)
	}
}

func TestPromise9SomeWays(t *testing.T) {
	r := fixed(98)
	seen := tally{}
	for n := 3; n <= impl.MaxCorners; n++ {
		for _, wide := range []int{2, 4, 12, far} {
			for range 12 {
				l := somePts(r, n, wide)
				on := ptsOn(l)
				for _, p := range append(somePts(r, 20, wide), aboutWay(l)...) {
					seen.add(checkGoneRound(t, l, p, on))
				}
			}
		}
	}
	seen.wantAll(t)
}

// Of a simple way each point is within just if it is gone round once, by even and not by even alike.
func TestPromise9SimpleWays(t *testing.T) {
	r := fixed(99)
	for n := 3; n <= impl.MaxCorners; n++ {
		for range 6 {
			l := someSimple(r, n, 8)
			on := ptsOn(l)
			for _, p := range inBox(pt(-9, -9), pt(9, 9)) {
				x := checkGoneRound(t, l, p, on)
				if x.byEven != x.notByEven || x.winding != 0 && x.winding != signOfInt(plainArea(l)) {
					t.Fatalf("%v at %v: %+v", l, p, x)
				}
			}
		}
	}
}

// From any corner on all is alike; the other way round one goes round as often with the other sign, with as many crossings.
func TestPromise9Turned(t *testing.T) {
	r := fixed(100)
	for n := 3; n <= impl.MaxCorners; n++ {
		for range 10 {
			l := somePts(r, n, 6)
			back, _ := impl.TurnAll(l)
			for _, p := range somePts(r, 12, 7) {
				x := roundAt(l, p)
				wantRound(t, back, p, x.on, -x.winding, x.crossings)
				for at := range l {
					wantRound(t, begunAt(l, at), p, x.on, x.winding, x.crossings)
				}
			}
		}
	}
}

// Moved with its way a point is gone round alike.
func TestPromise9Moved(t *testing.T) {
	r := fixed(101)
	for range 300 {
		l, p, by := somePts(r, 3+r.IntN(impl.MaxCorners-2), 7), somePt(r, 8), somePt(r, far-8)
		moved, ok := impl.MovePts(l, by)
		if !ok {
			t.Fatalf("MovePts %v by %v: refused", l, by)
		}
		x := roundAt(l, p)
		wantRound(t, moved, pt(p.X+by.X, p.Y+by.Y), x.on, x.winding, x.crossings)
	}
}

// checkSplit: both parts go together round each point as often as the whole, with as many crossings, but for those of the cut, an even number; and their areas are together that of the whole.
func checkSplit(t *testing.T, l []impl.Pt, a, b int, about []impl.Pt) int {
	t.Helper()
	one, other, ok := impl.SplitWay(l, a, b)
	if !ok {
		t.Fatalf("SplitWay %v %d %d: refused", l, a, b)
	}
	area, _ := impl.AreaTwice(l)
	areaOne, okOne := impl.AreaTwice(one)
	areaOther, okOther := impl.AreaTwice(other)
	if !okOne || !okOther || areaOne+areaOther != area {
		t.Fatalf("%v split at %d and %d: twice the area %d, of the parts %d and %d", l, a, b, area, areaOne, areaOther)
	}
	held := 0
	for _, p := range about {
		x, y, z := roundAt(l, p), roundAt(one, p), roundAt(other, p)
		onCut := isOn(l[a], l[b], p)
		if (y.on || z.on) != (x.on || onCut) || onCut && !(y.on && z.on) {
			t.Fatalf("%v split at %d and %d, at %v: on it %v, on the cut %v, on the parts %v and %v", l, a, b, p, x.on, onCut, y.on, z.on)
		}
		if x.on || onCut {
			continue
		}
		held++
		if y.winding+z.winding != x.winding || (y.crossings+z.crossings-x.crossings)%2 != 0 || y.crossings+z.crossings < x.crossings {
			t.Fatalf("%v split at %d and %d, at %v: %+v, the parts %+v and %+v", l, a, b, p, x, y, z)
		}
	}
	return held
}

func TestPromise9Split(t *testing.T) {
	r := fixed(102)
	held := 0
	for n := 4; n <= impl.MaxCorners; n++ {
		for range 4 {
			for a := range n {
				for b := range n {
					if isToldSplit(n, a, b) {
						held += checkSplit(t, somePts(r, n, 6), a, b, somePts(r, 8, 7))
					}
				}
			}
		}
	}
	if held == 0 {
		t.Error("no point was beside the way and both parts")
	}
}

func TestPromise9SplitEdgeWays(t *testing.T) {
	for _, l := range windingWays() {
		for a := range l {
			b := a + len(l)/2
			if isToldSplit(len(l), a, b) {
				checkSplit(t, l, a, b, aboutWay(l))
			}
		}
	}
}
