package tests

import (
	"testing"

	"loop.example/g00409/impl"
)

// checkPick: promise 8, within a simple way there are as many points of the grid as its area and its border tell (Pick), and of one that is not simple none are told. It answers how many there are, and whether the way is simple.
func checkPick(t *testing.T, l []impl.Pt) (int, bool) {
	t.Helper()
	area, ok := impl.AreaTwice(l)
	wantInt(t, "AreaTwice", l, area, ok, plainArea(l))
	border, ok := impl.BorderPoints(l)
	wantInt(t, "BorderPoints", l, border, ok, plainBorder(l))
	want := isPlainSimple(l)
	simple, ok := impl.IsSimple(l)
	wantFlag(t, "IsSimple", l, simple, ok, want)
	if !want {
		wantInner(t, l, false, 0)
		return 0, false
	}
	inner := plainInner(l)
	wantInner(t, l, true, inner)
	if away(area) != 2*inner+border-2 {
		t.Fatalf("%v: twice its area %d, on its border %d, within %d", l, area, border, inner)
	}
	return inner, true
}

// checkPickTurned: the other way round the area has the other sign, and all else stays; so it does from any corner on, and moved.
func checkPickTurned(t *testing.T, l []impl.Pt, by impl.Pt) {
	t.Helper()
	inner, simple := checkPick(t, l)
	area, _ := impl.AreaTwice(l)
	border, _ := impl.BorderPoints(l)
	back, ok := impl.TurnAll(l)
	if !ok {
		t.Fatalf("TurnAll %v: refused", l)
	}
	ways := [][]impl.Pt{back}
	for at := range l {
		ways = append(ways, begunAt(l, at))
	}
	if moved, ok := impl.MovePts(l, by); ok {
		ways = append(ways, moved)
	}
	for i, way := range ways {
		sign := 1
		if i == 0 {
			sign = -1
		}
		n, ok := impl.AreaTwice(way)
		wantInt(t, "AreaTwice", way, n, ok, sign*area)
		n, ok = impl.BorderPoints(way)
		wantInt(t, "BorderPoints", way, n, ok, border)
		is, ok := impl.IsSimple(way)
		wantFlag(t, "IsSimple", way, is, ok, simple)
		wantInner(t, way, simple, inner)
	}
}

func TestInnerPointsWrittenOut(t *testing.T) {
	for _, c := range []struct {
		l    []impl.Pt
		want int
	}{
		{wayOf(0, 0, 4, 0, 4, 3, 0, 3), 6}, {wayOf(0, 3, 4, 3, 4, 0, 0, 0), 6}, {wayOf(0, 0, 1, 0, 0, 1), 0}, {wayOf(0, 0, 2, 0, 0, 2), 0}, {wayOf(0, 0, 3, 0, 0, 3), 1}, {wayOf(0, 0, 0, 3, 3, 0), 1},
		{wayOf(0, 0, 1, 0, 1, 1, 0, 1), 0}, {wayOf(0, 0, 2, 0, 2, 2, 0, 2), 1}, {wayOf(1, 0, 2, 1, 1, 2, 0, 1), 1}, {wayOf(0, 0, far, 1, far-1, 1), 0},
		{wayOf(-far, -far, far, -far, far, far, -far, far), (2*far - 1) * (2*far - 1)}, {wayOf(-far, -far, -far, far, far, far, far, -far), (2*far - 1) * (2*far - 1)},
		{wayOf(-far, -far, far, far, far, far-1), 0},
		{comb(9), 9 + 3*7}, {comb(3), 9 + 3*1}, {wayOf(0, 0, 2, 0, 4, 0, 4, 3, 4, 4, 0, 4), 9},
	} {
		wantInner(t, c.l, true, c.want)
	}
}

func TestPromise8EdgeWays(t *testing.T) {
	by := pt(-far/2, 7)
	for _, l := range simpleWays() {
		if _, simple := checkPick(t, l); !simple {
			t.Fatalf("%v is simple", l)
		}
		checkPickTurned(t, l, by)
	}
	for _, c := range notSimpleWays() {
		if _, simple := checkPick(t, c.way); simple {
			t.Fatalf("%v is not simple: %s", c.way, c.why)
		}
		checkPickTurned(t, c.way, by)
	}
}

func TestPromise8AllSmallWays(t *testing.T) {
	without, with, none := 0, 0, 0
	for _, c := range []struct{ corners, side int }{{3, 5}, {4, 4}, {5, 3}} {
		eachWay(c.corners, c.side, func(l []impl.Pt) {
			inner, simple := checkPick(t, l)
			switch {
			case !simple:
				none++
			case inner == 0:
				without++
			default:
				with++
			}
		})
	}
	if without == 0 || with == 0 || none == 0 {
		t.Error("without any point within, with some, not simple:", without, with, none)
	}
}

func TestPromise8SomeWays(t *testing.T) {
	r := fixed(89)
	for n := 3; n <= impl.MaxCorners; n++ {
		for _, wide := range []int{4, 15, 60} {
			for range 12 {
				checkPickTurned(t, someSimple(r, n, wide), somePt(r, far))
				checkPickTurned(t, somePts(r, n, wide), somePt(r, far))
			}
		}
	}
}

func TestPromise8WideWays(t *testing.T) {
	r := fixed(90)
	for _, n := range []int{3, 4, 7, impl.MaxCorners} {
		if inner, simple := checkPick(t, someSimple(r, n, far)); !simple || inner == 0 {
			t.Error("a wide way, simple and with points within:", simple, inner)
		}
	}
}

// A way cut in two by a segment between two of its corners: the points within are those within both parts, and those on the segment.
func TestPromise8CutInTwo(t *testing.T) {
	r := fixed(91)
	cut := 0
	for range 400 {
		l := someSimple(r, 4+r.IntN(impl.MaxCorners-3), 12)
		if len(l) < 4 {
			continue
		}
		i := r.IntN(len(l) - 2)
		j := i + 2 + r.IntN(len(l)-i-2)
		if i == 0 && j == len(l)-1 {
			continue
		}
		one := append([]impl.Pt{}, l[i:j+1]...)
		other := append(append([]impl.Pt{}, l[j:]...), l[:i+1]...)
		whole, _ := checkPick(t, l)
		a, aSimple := checkPick(t, one)
		b, bSimple := checkPick(t, other)
		outside := plainArea(one)*plainArea(l) < 0 || plainArea(other)*plainArea(l) < 0
		if !aSimple || !bSimple || outside {
			continue
		}
		cut++
		if on := len(stepsOf(l[i], l[j])) - 2; whole != a+b+on {
			t.Fatalf("%v cut from %d to %d: %d within, in parts %d and %d, on the cut %d", l, i, j, whole, a, b, on)
		}
	}
	if cut == 0 {
		t.Error("no way was cut in two")
	}
}
