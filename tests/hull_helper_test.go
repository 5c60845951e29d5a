package tests

import (
	"math/rand/v2"
	"slices"
	"testing"

	"loop.example/g00409/impl"
)

// isBetweenPts tells by a product of differences, where the three are on one line.
func isBetweenPts(a, b, p impl.Pt) bool {
	return plainArea([]impl.Pt{a, b, p}) == 0 && (a.X-p.X)*(b.X-p.X)+(a.Y-p.Y)*(b.Y-p.Y) <= 0
}

// isEdge: all points are left of the segment from a to b, or on it.
func isEdge(l []impl.Pt, a, b impl.Pt) bool {
	if a == b {
		return false
	}
	for _, p := range l {
		if plainArea([]impl.Pt{a, b, p}) <= 0 && !isBetweenPts(a, b, p) {
			return false
		}
	}
	return true
}

// plainHull goes from the least point along edges, each found among all pairs of points, which the program does not.
func plainHull(l []impl.Pt) []impl.Pt {
	first := plainRising(l)[0]
	hull := []impl.Pt{first}
	for at := first; ; {
		next := slices.IndexFunc(l, func(p impl.Pt) bool { return isEdge(l, at, p) })
		if next < 0 || l[next] == first {
			return hull
		}
		at = l[next]
		hull = append(hull, at)
	}
}

// plainRising goes through all points from the least to the greatest one that there are, column by column.
func plainRising(l []impl.Pt) []impl.Pt {
	all := []impl.Pt{}
	if len(l) == 0 {
		return all
	}
	lo, hi := plainBox(l)
	for x := lo.X; x <= hi.X; x++ {
		inColumn := []int{}
		for _, p := range l {
			if p.X == x {
				inColumn = append(inColumn, p.Y)
			}
		}
		slices.Sort(inColumn)
		for _, y := range slices.Compact(inColumn) {
			all = append(all, pt(x, y))
		}
	}
	return all
}

// isPlainConvex: each three corners, in the order of the way, go round to the left.
func isPlainConvex(l []impl.Pt) bool {
	for i := range l {
		for j := range i {
			for k := range j {
				if plainArea([]impl.Pt{l[k], l[j], l[i]}) <= 0 {
					return false
				}
			}
		}
	}
	return true
}

// isPlainIn: the triangles of the point and each segment cover no more than the way does.
func isPlainIn(h []impl.Pt, p impl.Pt) bool {
	sum := 0
	for i, a := range h {
		sum += away(plainArea([]impl.Pt{p, a, h[(i+1)%len(h)]}))
	}
	return sum == away(plainArea(h))
}

func plainWidest(l []impl.Pt) int {
	widest := 0
	for _, a := range l {
		for _, b := range l {
			if wide := (a.X-b.X)*(a.X-b.X) + (a.Y-b.Y)*(a.Y-b.Y); wide > widest {
				widest = wide
			}
		}
	}
	return widest
}

func wantHull(t *testing.T, l, want []impl.Pt) {
	t.Helper()
	h, ok := impl.HullOf(l)
	wantPts(t, "HullOf", l, h, ok, want)
}

func wantIsHull(t *testing.T, l, h []impl.Pt, want bool) {
	t.Helper()
	is, ok := impl.IsHull(l, h)
	wantFlag(t, "IsHull", []any{l, h}, is, ok, want)
}

func wantConvex(t *testing.T, l []impl.Pt, want bool) {
	t.Helper()
	is, ok := impl.IsConvex(l)
	wantFlag(t, "IsConvex", l, is, ok, want)
}

func wantHas(t *testing.T, h []impl.Pt, p impl.Pt, want bool) {
	t.Helper()
	has, ok := impl.HasPt(h, p)
	wantFlag(t, "HasPt", []any{h, p}, has, ok, want)
}

// sixteen is convex, with MaxCloud corners, from its least point on to the left; by is how long its shortest segments are, and it is 9 times as wide and as high.
func sixteen(by int) []impl.Pt {
	at := pt(-9*by/2, -9*by/2+4*by)
	l := []impl.Pt{}
	for _, step := range wayOf(1, -2, 1, -1, 2, -1, 1, 0, 2, 1, 1, 1, 1, 2, 0, 1, -1, 2, -1, 1, -2, 1, -1, 0, -2, -1, -1, -1, -1, -2, 0, -1) {
		l = append(l, at)
		at = pt(at.X+by*step.X, at.Y+by*step.Y)
	}
	return l
}

func plainFromLeast(l []impl.Pt) []impl.Pt {
	return begunAt(l, slices.Index(l, plainRising(l)[0]))
}

// eachOften puts the points one behind the other, as often as they have room in a cloud.
func eachOften(l []impl.Pt) []impl.Pt {
	all := make([]impl.Pt, impl.MaxCloud)
	for i := range all {
		all[i] = l[i%len(l)]
	}
	return all
}

// beside are the points next to one, as far as the grid goes.
func beside(p impl.Pt) []impl.Pt {
	all := []impl.Pt{pt(p.X-1, p.Y), pt(p.X+1, p.Y), pt(p.X, p.Y-1), pt(p.X, p.Y+1)}
	return slices.DeleteFunc(all, func(p impl.Pt) bool { return !impl.GoodPt(p) })
}

func shuffled(r *rand.Rand, l []impl.Pt) []impl.Pt {
	mixed := slices.Clone(l)
	r.Shuffle(len(mixed), func(i, j int) { mixed[i], mixed[j] = mixed[j], mixed[i] })
	return mixed
}

// hullCase has a cloud, and what its corners are.
type hullCase struct {
	why  string
	l, h []impl.Pt
}

func hullCases() []hullCase {
	s := square(4)
	whole := wayOf(-far, -far, far, -far, far, far, -far, far)
	cross := wayOf(-far, 0, 0, -far, far, 0, 0, far)
	return []hullCase{
		{"one point", wayOf(3, -4), wayOf(3, -4)},
		{"one point at the edge", wayOf(-far, far), wayOf(-far, far)},
		{"the point of noughts", wayOf(0, 0), wayOf(0, 0)},
		{"two alike", wayOf(5, 5, 5, 5), wayOf(5, 5)},
		{"MaxCloud alike", eachOften(wayOf(-2, 7)), wayOf(-2, 7)},
		{"two", wayOf(0, 0, 3, 1), wayOf(0, 0, 3, 1)},
		{"two, the greater one first", wayOf(3, 1, 0, 0), wayOf(0, 0, 3, 1)},
		{"two of one column", wayOf(2, 9, 2, -9), wayOf(2, -9, 2, 9)},
		{"two, each often", eachOften(wayOf(3, 1, 0, 0)), wayOf(0, 0, 3, 1)},
		{"all on one row", wayOf(4, 0, 1, 0, 9, 0, 3, 0), wayOf(1, 0, 9, 0)},
		{"all on one column", wayOf(0, 4, 0, 1, 0, 9, 0, 3), wayOf(0, 1, 0, 9)},
		{"all on one segment, rising", wayOf(2, 2, 6, 4, 4, 3, 0, 1), wayOf(0, 1, 6, 4)},
		{"all on one segment, falling", wayOf(0, 4, 6, 1, 2, 3, 4, 2), wayOf(0, 4, 6, 1)},
		{"all on one segment, over the grid", wayOf(0, 0, far, far, -far, -far, 1, 1), wayOf(-far, -far, far, far)},
		{"a triangle, to the left", wayOf(0, 0, 3, 0, 0, 3), wayOf(0, 0, 3, 0, 0, 3)},
		{"a triangle, to the right", wayOf(0, 0, 0, 3, 3, 0), wayOf(0, 0, 3, 0, 0, 3)},
		{"a triangle with no point on its left alone", wayOf(3, 0, 5, 4, 0, 2), wayOf(0, 2, 3, 0, 5, 4)},
		{"a needle", wayOf(-far, -far, far, far, far, far-1), wayOf(-far, -far, far, far-1, far, far)},
		{"a needle, one off a long segment", wayOf(0, 0, 1, 0, -far, -far, far, far), wayOf(-far, -far, 1, 0, far, far)},
		{"a square", s, s},
		{"a square, the other way round", backwards(s), s},
		{"a square with the point in the middle", append(wayOf(2, 2), s...), s},
		{"a square with points on all segments", append(wayOf(1, 0, 4, 3, 2, 4, 0, 1, 0, 2, 3, 0), s...), s},
		{"a square with its corners often", eachOften(s), s},
		{"a triangle with all between its corners", wayOf(1, 2, 2, 1, 0, 1, 0, 0, 1, 0, 3, 0, 0, 2, 2, 0, 0, 3, 1, 1), wayOf(0, 0, 3, 0, 0, 3)},
		{"four, one within the others", wayOf(0, 0, 9, 0, 0, 9, 2, 2), wayOf(0, 0, 9, 0, 0, 9)},
		{"four, one just on the segment of two", wayOf(0, 0, 9, 0, 0, 9, 4, 5), wayOf(0, 0, 9, 0, 0, 9)},
		{"four, one just beyond it", wayOf(0, 0, 9, 0, 0, 9, 5, 5), wayOf(0, 0, 9, 0, 5, 5, 0, 9)},
		{"two columns", wayOf(0, 3, 2, 1, 0, 1, 2, 5, 0, 2, 2, 2), wayOf(0, 1, 2, 1, 2, 5, 0, 3)},
		{"two rows", wayOf(3, 0, 1, 2, 1, 0, 5, 2, 2, 0, 2, 2), wayOf(1, 0, 3, 0, 5, 2, 1, 2)},
		{"a star", star(), wayOf(0, 3, 1, 0, 5, 0, 6, 3, 3, 5)},
		{"a comb", comb(9), wayOf(0, 0, 10, 0, 10, 9, 0, 9)},
		{"sixteen points of a grid", gridOf(4), wayOf(0, 0, 3, 0, 3, 3, 0, 3)},
		{"the whole grid", append(wayOf(0, 0, far, 0, 1, -far), whole...), whole},
		{"the grid's sides alone", append(wayOf(far-1, 0, 1, far-2), cross...), cross},
		{"points beside the grid's sides", append(wayOf(far-1, 2, 1-far, -2), cross...), wayOf(-far, 0, 1-far, -2, 0, -far, far, 0, far-1, 2, 0, far)},
		{"MaxCloud corners", sixteen(1), sixteen(1)},
		{"MaxCloud corners, the other way round", backwards(sixteen(1)), sixteen(1)},
		{"MaxCloud corners over the grid", begunAt(sixteen(222), 5), sixteen(222)},
		{"MaxCloud corners, all turning on one side", longWay(impl.MaxCloud), longWay(impl.MaxCloud)},
		{"MaxCloud points, all but one corners", append(sixteen(3)[:15:15], pt(0, 0)), sixteen(3)[:15]},
	}
}

// cloudsOfAll are clouds for all that a hull may hang on, and some more of all numbers of points.
func cloudsOfAll(r *rand.Rand) [][]impl.Pt {
	all := [][]impl.Pt{}
	for _, c := range hullCases() {
		all = append(all, c.l)
	}
	for n := 1; n <= impl.MaxCloud; n++ {
		for _, wide := range []int{1, 2, 4, 12, far} {
			all = append(all, somePts(r, n, wide))
		}
	}
	return all
}

// convexWays go round to the left, begun at the least point.
func convexWays() [][]impl.Pt {
	ways := [][]impl.Pt{
		wayOf(0, 0, 1, 0, 0, 1), square(4), wayOf(0, 4, 4, 0, 8, 4, 4, 8), wayOf(0, 0, 9, 1, 7, 5), wayOf(0, 2, 3, 0, 5, 4), wayOf(-far, -far, far, far-1, far, far), wayOf(-far, -far, 1, 0, far, far),
		wayOf(-far, -far, far, -far, far, far, -far, far), wayOf(-far, 0, 0, -far, far, 0, 0, far), wayOf(0, 0, 2, -1, 4, 0, 4, 3, 2, 4, 0, 3),
	}
	for n := 3; n <= impl.MaxCorners; n++ {
		ways = append(ways, longWay(n), plainFromLeast(sixteen(2)[16-n:]), plainFromLeast(sixteen(222)[:n]))
	}
	return ways
}

// notConvexWays have for each what is amiss.
func notConvexWays() []wayNotSimple {
	s := square(4)
	return append(notSimpleWays(), []wayNotSimple{
		{"the other way round", backwards(s)},
		{"a triangle, the other way round", wayOf(0, 0, 0, 3, 3, 0)},
		{"a corner on a line", wayOf(0, 0, 2, 0, 4, 0, 4, 4)},
		{"the first corner on a line", wayOf(2, 0, 4, 0, 4, 4, 0, 0)},
		{"the last corner on a line", wayOf(4, 0, 4, 4, 0, 0, 2, 0)},
		{"a corner on a line, upright", wayOf(0, 0, 4, 0, 4, 4, 0, 4, 0, 1)},
		{"a corner on a line, askew", wayOf(0, 0, 6, 0, 4, 1, 0, 3)},
		{"bends inward", wayOf(0, 0, 4, 0, 1, 1, 0, 4)},
		{"bends inward at the first corner", wayOf(1, 1, 0, 4, 0, 0, 4, 0)},
		{"bends inward by one off a long segment", wayOf(-far, -far, far, -far, far, far, 0, -1)},
		{"bends inward, all corners else left", wayOf(0, 0, 9, 0, 9, 9, 5, 8, 0, 9)},
		{"goes round twice", inARow(s, s)},
		{"goes round three times, by MaxCorners points", inARow(s, s, s)},
		{"goes round twice, no two points alike", wayOf(0, 0, 9, 0, 9, 9, 1, 9, 1, 2, 6, 2, 6, 6, 0, 6)},
		{"a star to the left: all corners turn left", backwards(star())},
		{"two points alike, next to each other", wayOf(0, 0, 4, 0, 4, 0, 4, 4, 0, 4)},
		{"two points alike, the first and the last one", wayOf(0, 0, 4, 0, 4, 4, 0, 4, 0, 0)},
		{"two points alike, apart", wayOf(0, 0, 4, 0, 0, 0, 0, 4)},
		{"two corners changed", wayOf(0, 0, 4, 4, 4, 0, 0, 4)},
		{"a comb", comb(9)},
	}...)
}
