package tests

import (
	"slices"
	"testing"

	"loop.example/g00409/impl"
)

func TestMaxCloud(t *testing.T) {
	if impl.MaxCloud != 16 {
		t.Error(impl.MaxCloud)
	}
}

func TestLessPtWrittenOut(t *testing.T) {
	for _, c := range []struct {
		a, b impl.Pt
		want bool
	}{
		{pt(0, 0), pt(1, 0), true}, {pt(1, 0), pt(0, 0), false}, {pt(0, 0), pt(0, 1), true}, {pt(0, 1), pt(0, 0), false}, {pt(0, 0), pt(0, 0), false}, {pt(-3, 7), pt(-3, 7), false},
		// X decides, whatever Y is.
		{pt(0, 9), pt(1, -9), true}, {pt(1, -9), pt(0, 9), false}, {pt(-1, 5), pt(0, 5), true}, {pt(0, 5), pt(-1, 5), false}, {pt(-5, 0), pt(-4, -8), true}, {pt(-4, -8), pt(-5, 0), false},
		{pt(3, -2), pt(3, -1), true}, {pt(3, -1), pt(3, -2), false}, {pt(3, -1), pt(3, 1), true},
		{pt(-far, far), pt(far, -far), true}, {pt(far, -far), pt(-far, far), false}, {pt(far, -far), pt(far, far), true}, {pt(far, far), pt(far, -far), false}, {pt(-far, -far), pt(-far, far), true},
		{pt(far, far), pt(far, far), false}, {pt(-far, -far), pt(-far, -far), false}, {pt(far-1, far), pt(far, -far), true}, {pt(-far, far), pt(1-far, -far), true},
	} {
		less, ok := impl.LessPt(c.a, c.b)
		wantFlag(t, "LessPt", c, less, ok, c.want)
	}
}

// Of two points one is less, or they are one; and where two pairs are in order, so are their ends.
func TestLessPtIsAnOrder(t *testing.T) {
	all := inBox(pt(-2, -2), pt(1, 1))
	for i, a := range all {
		for j, b := range all {
			less, ok := impl.LessPt(a, b)
			// inBox goes column by column, from the least one on.
			wantFlag(t, "LessPt", []impl.Pt{a, b}, less, ok, i < j)
		}
	}
}

func wantSorted(t *testing.T, l, want []impl.Pt) {
	t.Helper()
	s, ok := impl.SortPts(l)
	wantPts(t, "SortPts", l, s, ok, want)
}

func TestSortPtsWrittenOut(t *testing.T) {
	rising := wayOf(-far, -far, -far, far, -1, 5, 0, -3, 0, 0, 0, 2, 7, -9, far, -far, far, far)
	wantSorted(t, nil, nil)
	wantSorted(t, []impl.Pt{}, nil)
	wantSorted(t, wayOf(0, 0), wayOf(0, 0))
	wantSorted(t, wayOf(4, -4), wayOf(4, -4))
	wantSorted(t, wayOf(4, -4, 4, -4), wayOf(4, -4))
	wantSorted(t, rising, rising)
	wantSorted(t, backwards(rising), rising)
	wantSorted(t, wayOf(1, 1, 0, 0, 2, 0, 1, 0, 2, 2, 0, 2, 0, 0), wayOf(0, 0, 0, 2, 1, 0, 1, 1, 2, 0, 2, 2))
	wantSorted(t, wayOf(2, 0, 1, 9, 2, 0, 1, 9, 2, 0), wayOf(1, 9, 2, 0))
	wantSorted(t, wayOf(1, 2, 2, 1), wayOf(1, 2, 2, 1))
	wantSorted(t, eachOften(wayOf(0, 0)), wayOf(0, 0))
	wantSorted(t, eachOften(wayOf(-far, far)), wayOf(-far, far))
	wantSorted(t, eachOften(rising), rising)
	wantSorted(t, gridOf(4), gridOf(4))
	wantSorted(t, backwards(gridOf(4)), gridOf(4))
	wantSorted(t, longWay(impl.MaxCloud), longWay(impl.MaxCloud))
	wantSorted(t, backwards(longWay(impl.MaxCloud)), longWay(impl.MaxCloud))
}

// Told are all points, rising by LessPt; sorted again they stay, and they hang neither on the order nor on how often each one is there.
func TestSortPtsOfSome(t *testing.T) {
	r := fixed(104)
	for _, l := range cloudsOfAll(r) {
		want := plainRising(l)
		wantSorted(t, l, want)
		wantSorted(t, shuffled(r, l), want)
		wantSorted(t, backwards(l), want)
		wantSorted(t, want, want)
		wantSorted(t, backwards(want), want)
		wantSorted(t, eachOften(l), want)
		for i := range want[1:] {
			less, ok := impl.LessPt(want[i], want[i+1])
			wantFlag(t, "LessPt", want[i:i+2], less, ok, true)
		}
	}
}

func TestSortPtsLimit(t *testing.T) {
	for n := range 3 * impl.MaxCloud {
		for _, l := range [][]impl.Pt{longWay(n), make([]impl.Pt, n)} {
			if n > impl.MaxCloud {
				wantZero(t, impl.SortPts, l)
				continue
			}
			watchTold(t, impl.SortPts, l)
			wantSorted(t, l, plainRising(l))
		}
	}
}

func TestHullOfWrittenOut(t *testing.T) {
	r := fixed(105)
	for _, c := range hullCases() {
		t.Log(c.why)
		wantHull(t, c.l, c.h)
		wantHull(t, backwards(c.l), c.h)
		wantHull(t, eachOften(c.l), c.h)
		for range 10 {
			wantHull(t, shuffled(r, c.l), c.h)
		}
		if plain := plainHull(c.l); !slices.Equal(plain, c.h) {
			t.Fatalf("%v: found along edges %v", c.l, plain)
		}
	}
}

func TestHullOfLimit(t *testing.T) {
	for n := range 3 * impl.MaxCloud {
		for _, l := range [][]impl.Pt{longWay(n), make([]impl.Pt, n)} {
			if n == 0 || n > impl.MaxCloud {
				wantZero(t, impl.HullOf, l)
				wantZero(t, impl.IsHull, l, l)
				wantZero(t, impl.WidestIn, l)
				continue
			}
			watchTold(t, impl.HullOf, l)
			wantHull(t, l, plainHull(l))
			wantIsHull(t, l, plainHull(l), true)
			watchTold(t, impl.WidestIn, l)
		}
	}
}

// A corner on a line is none, wherever on the segment it lies, and whichever comes first.
func TestHullOfCornersOnALine(t *testing.T) {
	for _, h := range convexWays() {
		for i, a := range h {
			steps := stepsOf(a, h[(i+1)%len(h)])
			for _, at := range []int{0, min(1, len(steps)-1), len(steps) / 2, len(steps) - 1} {
				wantHull(t, append(slices.Clone(h), steps[at]), h)
				wantHull(t, append([]impl.Pt{steps[at]}, h...), h)
				wantHull(t, slices.Insert(slices.Clone(h), i+1, steps[at]), h)
			}
		}
	}
}

func TestIsHullWrittenOut(t *testing.T) {
	for _, c := range hullCases() {
		t.Log(c.why)
		wantIsHull(t, c.l, c.h, true)
		wantIsHull(t, c.h, c.h, true)
		wantIsHull(t, c.l, nil, false)
		wantIsHull(t, c.l, []impl.Pt{}, false)
		for i := range c.h {
			if i > 0 {
				wantIsHull(t, c.l, begunAt(c.h, i), false)
			}
			wantIsHull(t, c.l, slices.Delete(slices.Clone(c.h), i, i+1), false)
			wantIsHull(t, c.l, slices.Insert(slices.Clone(c.h), i, c.h[i]), false)
			for _, p := range beside(c.h[i]) {
				moved := slices.Clone(c.h)
				moved[i] = p
				wantIsHull(t, c.l, moved, false)
			}
		}
		wantIsHull(t, c.l, append(slices.Clone(c.h), c.h[0]), false)
		if len(c.h) > 1 {
			wantIsHull(t, c.l, backwards(c.h), false)
		}
		if len(c.h) > 2 {
			wantIsHull(t, c.l, begunAt(backwards(c.h), len(c.h)-1), false)
		}
	}
}

// A point on a segment is no corner, though the shape be the same.
func TestIsHullWithAPointPutIn(t *testing.T) {
	s := square(4)
	for i, a := range s {
		for _, p := range stepsOf(a, s[(i+1)%4])[1:4] {
			more := slices.Insert(slices.Clone(s), i+1, p)
			wantIsHull(t, s, more, false)
			wantIsHull(t, more, more, false)
			wantIsHull(t, more, s, true)
		}
	}
	wantIsHull(t, wayOf(0, 0, 1, 0, 2, 0), wayOf(0, 0, 1, 0, 2, 0), false)
	wantIsHull(t, wayOf(0, 0, 1, 0, 2, 0), wayOf(0, 0, 2, 0), true)
	wantIsHull(t, wayOf(0, 0, 1, 0, 2, 0), wayOf(2, 0, 0, 0), false)
	wantIsHull(t, s, append(slices.Clone(s), pt(2, 2)), false)
}

// Points to be held against a hull may be more than a cloud has: they are none of it.
func TestIsHullOfFarMorePoints(t *testing.T) {
	for _, n := range []int{impl.MaxCloud, impl.MaxCloud + 1, 2 * impl.MaxCloud, 40, 3000, 100000} {
		wantIsHull(t, wayOf(0, 0), make([]impl.Pt, n), false)
		wantIsHull(t, sixteen(1), append(sixteen(1), make([]impl.Pt, n)...), false)
		many := make([]impl.Pt, n)
		copy(many, sixteen(1))
		wantIsHull(t, sixteen(1), many, n == impl.MaxCloud)
		many[n-1] = pt(far+1, 0)
		wantZero(t, impl.IsHull, sixteen(1), many)
	}
	wantIsHull(t, sixteen(222), slices.Concat(sixteen(222), sixteen(222)), false)
}

func TestIsConvexWrittenOut(t *testing.T) {
	for _, h := range convexWays() {
		for i := range h {
			wantConvex(t, begunAt(h, i), true)
			wantConvex(t, begunAt(backwards(h), i), false)
		}
		wantHull(t, h, h)
	}
	for _, c := range notConvexWays() {
		t.Log(c.why)
		for i := range c.way {
			wantConvex(t, begunAt(c.way, i), false)
		}
	}
}

// Each corner put in, left out or changed with another one.
func TestIsConvexChanged(t *testing.T) {
	for _, h := range convexWays() {
		for i, a := range h {
			b := h[(i+1)%len(h)]
			steps := stepsOf(a, b)
			if len(h) < impl.MaxCorners {
				for _, at := range []int{0, len(steps) / 2, len(steps) - 1} {
					wantConvex(t, slices.Insert(slices.Clone(h), i+1, steps[at]), false)
				}
			}
			if len(h) > 3 {
				wantConvex(t, slices.Delete(slices.Clone(h), i, i+1), true)
			}
			for j := range i {
				changed := slices.Clone(h)
				changed[i], changed[j] = changed[j], changed[i]
				wantConvex(t, changed, false)
			}
		}
	}
}

func TestIsConvexOfAllSmallWays(t *testing.T) {
	many := map[bool]int{}
	for _, c := range []struct{ corners, side int }{{3, 4}, {4, 3}, {5, 3}} {
		eachWay(c.corners, c.side, func(l []impl.Pt) {
			want := isPlainConvex(l)
			wantConvex(t, l, want)
			many[want]++
		})
	}
	if many[true] == 0 || many[false] == 0 {
		t.Error("convex and not:", many)
	}
}

func TestIsConvexOfSome(t *testing.T) {
	r := fixed(106)
	many := map[bool]int{}
	for range 3000 {
		l := somePts(r, 3+r.IntN(3), []int{2, 5, far}[r.IntN(3)])
		want := isPlainConvex(l)
		wantConvex(t, l, want)
		many[want]++
	}
	if many[true] < 100 || many[false] < 100 {
		t.Error("convex and not:", many)
	}
}

func TestHasPtWrittenOut(t *testing.T) {
	s, diamond := square(4), wayOf(0, 4, 4, 0, 8, 4, 4, 8)
	whole := wayOf(-far, -far, far, -far, far, far, -far, far)
	needle := wayOf(-far, -far, far, far-1, far, far)
	for _, c := range []struct {
		why  string
		h    []impl.Pt
		p    impl.Pt
		want bool
	}{
		{"within", s, pt(1, 1), true}, {"within", diamond, pt(4, 4), true}, {"within, beside a segment", diamond, pt(2, 3), true},
		{"at a corner", s, pt(0, 0), true}, {"at a corner", s, pt(4, 4), true}, {"at the last corner", s, pt(0, 4), true}, {"at a corner", diamond, pt(4, 8), true},
		{"on a segment", s, pt(2, 0), true}, {"on a segment", s, pt(4, 1), true}, {"on the last segment", s, pt(0, 3), true}, {"on a segment askew", diamond, pt(1, 3), true}, {"on the last segment askew", diamond, pt(3, 7), true},
		{"on a segment's line, beyond its end", s, pt(5, 0), false}, {"ahead of its beginning", s, pt(-1, 0), false}, {"above an upright one", s, pt(4, 5), false}, {"below an upright one", s, pt(0, -1), false},
		{"on the line of a segment askew, beyond its end", diamond, pt(5, -1), false}, {"ahead of its beginning", diamond, pt(-1, 5), false}, {"far beyond its end", diamond, pt(4-far, far), false},
		{"left", s, pt(-1, 2), false}, {"right", s, pt(5, 2), false}, {"above", s, pt(2, 5), false}, {"below", s, pt(2, -1), false}, {"in the box, outside", diamond, pt(1, 1), false}, {"in the box, outside", diamond, pt(7, 7), false},
		{"far outside", s, pt(far, far), false}, {"far outside", s, pt(-far, -far), false},
		{"the whole grid, a corner", whole, pt(far, -far), true}, {"the whole grid, a side", whole, pt(far, 3), true}, {"the whole grid, within", whole, pt(0, 0), true},
		{"a needle, beside it", needle, pt(0, 1), false}, {"a needle, beside it", needle, pt(0, -1), false}, {"a needle, on its segment", needle, pt(0, 0), true}, {"a needle, on its end", needle, pt(far, far-1), true}, {"a needle, beyond its end", needle, pt(far, far-2), false},
	} {
		t.Log(c.why)
		for i := range c.h {
			wantHas(t, begunAt(c.h, i), c.p, c.want)
		}
	}
}

func TestHasPtOfWaysNotConvex(t *testing.T) {
	for _, c := range notConvexWays() {
		t.Log(c.why)
		for _, p := range append(wayOf(1, 1, 2, 0, -5, 2, far, -far), c.way...) {
			wantZero(t, impl.HasPt, c.way, p)
		}
	}
}

// All points about a way, by what the triangles with each segment cover, and by how often the way goes round them.
func TestHasPtOfAllAbout(t *testing.T) {
	r := fixed(107)
	many := map[bool]int{}
	for _, h := range convexWays() {
		lo, hi := plainBox(h)
		about := append(aboutWay(h), somePts(r, 20, far)...)
		if (hi.X-lo.X)*(hi.Y-lo.Y) < 900 {
			about = append(about, inBox(pt(lo.X-1, lo.Y-1), pt(hi.X+1, hi.Y+1))...)
		}
		for _, p := range about {
			want := isPlainIn(h, p)
			wantHas(t, h, p, want)
			many[want]++
			on, _ := impl.OnWay(h, p)
			inside, _ := impl.Inside(h, p, true)
			if want != (on || inside) {
				t.Fatalf("%v at %v: in %v, on %v, inside %v", h, p, want, on, inside)
			}
		}
	}
	if many[true] < 100 || many[false] < 100 {
		t.Error("in and not:", many)
	}
}

func TestWidestInWrittenOut(t *testing.T) {
	for _, c := range []struct {
		l    []impl.Pt
		want int
	}{
		{wayOf(0, 0), 0}, {wayOf(-far, far), 0}, {wayOf(7, 7, 7, 7), 0}, {eachOften(wayOf(3, -9)), 0},
		{wayOf(0, 0, 1, 0), 1}, {wayOf(0, 0, 0, -1), 1}, {wayOf(0, 0, 3, 4), 25}, {wayOf(3, 4, 0, 0), 25}, {wayOf(-1, -1, 1, 1), 8}, {wayOf(-1, 1, 1, -1), 8},
		{wayOf(0, 0, 5, 0, 3, 0), 25}, {wayOf(3, 0, 0, 0, 5, 0), 25}, {wayOf(5, 0, 3, 0, 0, 0), 25}, {square(4), 32}, {comb(9), 181}, {star(), 36},
		// The widest two have neither the greatest difference of X nor that of Y.
		{wayOf(0, 0, 10, 0, 9, 8, 1, -8, 5, 9), 8*8 + 16*16}, {wayOf(0, 0, 8, 8, 9, 0, 0, 9), 162},
		{wayOf(-far, -far, far, -far, far, far, -far, far), 8 * far * far}, {wayOf(-far, -far, far, far), 8 * far * far}, {wayOf(far, -far, -far, far), 8 * far * far}, {wayOf(far, 0, -far, 0), 4 * far * far}, {wayOf(0, far, 0, -far), 4 * far * far},
		{sixteen(1), 9*9 + 1*1}, {longWay(impl.MaxCloud), 15*15 + 105*105},
	} {
		n, ok := impl.WidestIn(c.l)
		wantInt(t, "WidestIn", c.l, n, ok, c.want)
		n, ok = impl.WidestIn(backwards(c.l))
		wantInt(t, "WidestIn", backwards(c.l), n, ok, c.want)
	}
}

// The widest two may stand at any two places; and they are corners of the hull.
func TestWidestInOfSome(t *testing.T) {
	r := fixed(108)
	for _, l := range cloudsOfAll(r) {
		n, ok := impl.WidestIn(l)
		wantInt(t, "WidestIn", l, n, ok, plainWidest(l))
		n, ok = impl.WidestIn(plainHull(l))
		wantInt(t, "WidestIn of its hull", l, n, ok, plainWidest(l))
	}
	for i := range impl.MaxCloud {
		for j := range i {
			l := somePts(r, impl.MaxCloud, 9)
			l[i], l[j] = pt(-far, 3), pt(far, -5)
			n, ok := impl.WidestIn(l)
			wantInt(t, "WidestIn", l, n, ok, 4*far*far+64)
		}
	}
}
