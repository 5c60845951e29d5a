package tests

import (
	"math/rand/v2"
	"slices"
	"testing"

	"loop.example/g00409/impl"
)

// hasAsHull tells by the program's own functions whether a hull has a point: one or two corners, and more than a way has, are no way for HasPt.
func hasAsHull(t *testing.T, h []impl.Pt, p impl.Pt) bool {
	t.Helper()
	has, ok := false, true
	switch n := len(h); {
	case n == 1:
		has = h[0] == p
	case n == 2:
		has, ok = impl.OnSegment(h[0], h[1], p)
	case n <= impl.MaxCorners:
		has, ok = impl.HasPt(h, p)
	default:
		has = isPlainIn(h, p)
	}
	if !ok {
		t.Fatalf("%v and %v: refused", h, p)
	}
	return has
}

// checkHull: promise 10, a hull has all points, and is the hull of its own corners; these are points of the cloud, from the least one on, each turning left.
func checkHull(t *testing.T, l []impl.Pt) []impl.Pt {
	t.Helper()
	h, ok := impl.HullOf(l)
	wantPts(t, "HullOf", l, h, ok, plainHull(l))
	for _, p := range l {
		if !hasAsHull(t, h, p) {
			t.Fatalf("%v: %v lies outside of the hull %v", l, p, h)
		}
	}
	wantHull(t, h, h)
	wantIsHull(t, l, h, true)
	wantIsHull(t, h, h, true)
	sorted, ok := impl.SortPts(l)
	if !ok || h[0] != sorted[0] {
		t.Fatalf("%v: the hull begins at %v, the least point is %v", l, h[0], sorted)
	}
	for i, p := range h {
		if !slices.Contains(l, p) {
			t.Fatalf("%v: the corner %v is no point of it", l, p)
		}
		turn, ok := impl.Orient(p, h[(i+1)%len(h)], h[(i+2)%len(h)])
		if !ok || len(h) > 2 && turn != 1 {
			t.Fatalf("%v: the hull %v turns by %d behind %v", l, h, turn, p)
		}
	}
	if len(h) > 2 && len(h) <= impl.MaxCorners {
		wantConvex(t, h, true)
	}
	return h
}

// onCircle are all points of the grid that lie just as far from the middle: each one is a corner.
func onCircle(wide int) []impl.Pt {
	all := []impl.Pt{}
	for x := -wide; x <= wide; x++ {
		for y := -wide; y <= wide; y++ {
			if x*x+y*y == wide*wide {
				all = append(all, pt(x, y))
			}
		}
	}
	return all
}

// someRound takes n unlike points of a circle.
func someRound(r *rand.Rand, circle []impl.Pt, n int) []impl.Pt {
	return shuffled(r, circle)[:n]
}

func TestPromise10EdgeClouds(t *testing.T) {
	for _, c := range hullCases() {
		t.Log(c.why)
		for i := range c.l {
			checkHull(t, begunAt(c.l, i))
		}
	}
	for _, l := range convexWays() {
		checkHull(t, l)
		checkHull(t, backwards(l))
	}
	for _, l := range windingWays() {
		checkHull(t, l)
	}
}

func TestPromise10AllSmallClouds(t *testing.T) {
	corners := map[int]int{}
	for _, c := range []struct{ points, side int }{{1, 5}, {2, 5}, {3, 4}, {4, 3}} {
		eachWay(c.points, c.side, func(l []impl.Pt) {
			corners[len(checkHull(t, l))]++
		})
	}
	for n := 1; n <= 4; n++ {
		if corners[n] == 0 {
			t.Error("no hull of as many corners:", n)
		}
	}
}

func TestPromise10SomeClouds(t *testing.T) {
	r := fixed(109)
	corners := map[int]int{}
	for n := 1; n <= impl.MaxCloud; n++ {
		for _, wide := range []int{1, 2, 4, 12, far} {
			for range 40 {
				corners[len(checkHull(t, somePts(r, n, wide)))]++
			}
		}
	}
	for n := 1; n <= 9; n++ {
		if corners[n] == 0 {
			t.Error("no hull of as many corners:", n)
		}
	}
}

// Of points on a circle each one is a corner, up to MaxCloud of them; those nearer to the middle are none.
func TestPromise10RoundClouds(t *testing.T) {
	r := fixed(110)
	for _, wide := range []int{65, 325, 845} {
		circle := onCircle(wide)
		for n := 1; n <= impl.MaxCloud; n++ {
			for range 10 {
				l := someRound(r, circle, n)
				h := checkHull(t, l)
				if len(h) != n {
					t.Fatalf("%v: the hull has %d corners", l, len(h))
				}
				within := l
				for len(within) < impl.MaxCloud {
					a, b := within[r.IntN(len(within))], within[r.IntN(len(within))]
					within = append(slices.Clone(within), pt((a.X+b.X)/2, (a.Y+b.Y)/2))
				}
				checkHull(t, shuffled(r, within))
			}
		}
	}
}

// Clouds of points that are nearly or quite on one line.
func TestPromise10NarrowClouds(t *testing.T) {
	r := fixed(111)
	corners := map[bool]int{}
	for range 600 {
		step := somePt(r, 30)
		l := make([]impl.Pt, 1+r.IntN(impl.MaxCloud))
		for i := range l {
			by := r.IntN(61) - 30
			l[i] = pt(by*step.X, by*step.Y)
		}
		corners[len(checkHull(t, l)) <= 2]++
		l[r.IntN(len(l))].Y++
		corners[len(checkHull(t, l)) <= 2]++
	}
	if corners[true] < 100 || corners[false] < 100 {
		t.Error("clouds on one segment, and not:", corners)
	}
}

// A hull hangs neither on the order of points nor on how often each one is there.
func TestPromise10Mixed(t *testing.T) {
	r := fixed(112)
	for _, l := range cloudsOfAll(r) {
		h := checkHull(t, l)
		wantHull(t, shuffled(r, l), h)
		wantHull(t, eachOften(l), h)
		rising, _ := impl.SortPts(l)
		wantHull(t, rising, h)
		wantHull(t, backwards(rising), h)
	}
}

// A point more that the hull has changes nothing; any other one becomes a corner, and the corners that there were tell the hull with it.
func TestPromise10OneMore(t *testing.T) {
	r := fixed(113)
	many := map[bool]int{}
	for range 1500 {
		wide := []int{2, 5, 30, far}[r.IntN(4)]
		l, p := somePts(r, 1+r.IntN(impl.MaxCloud-1), wide), somePt(r, wide)
		h := checkHull(t, l)
		more := checkHull(t, append(slices.Clone(l), p))
		wantHull(t, append([]impl.Pt{p}, h...), more)
		has := hasAsHull(t, h, p)
		many[has]++
		if has && !slices.Equal(h, more) || !has && !slices.Contains(more, p) {
			t.Fatalf("%v has the hull %v, with %v it has %v", l, h, p, more)
		}
	}
	if many[true] < 100 || many[false] < 100 {
		t.Error("points that a hull has, and not:", many)
	}
}

// Moved with its cloud a hull is the same.
func TestPromise10Moved(t *testing.T) {
	r := fixed(114)
	for range 400 {
		l, by := somePts(r, 3+r.IntN(impl.MaxCorners-2), 6), somePt(r, far-6)
		h := checkHull(t, l)
		moved, ok := impl.MovePts(l, by)
		if !ok {
			t.Fatalf("MovePts %v by %v: refused", l, by)
		}
		want := make([]impl.Pt, len(h))
		for i, p := range h {
			want[i] = pt(p.X+by.X, p.Y+by.Y)
		}
		wantHull(t, moved, want)
	}
}
