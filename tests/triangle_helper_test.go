package tests

import (
	"math"
	"math/rand/v2"
	"slices"
	"testing"

	"loop.example/g00409/impl"
)

func tri(a, b, c int) impl.Tri {
	return impl.Tri{A: a, B: b, C: c}
}

// trisOf takes three numbers by turns.
func trisOf(numbers ...int) []impl.Tri {
	l := make([]impl.Tri, len(numbers)/3)
	for i := range l {
		l[i] = tri(numbers[3*i], numbers[3*i+1], numbers[3*i+2])
	}
	return l
}

func cornersOf(l []impl.Pt, t impl.Tri) []impl.Pt {
	return []impl.Pt{l[t.A], l[t.B], l[t.C]}
}

// earAt is the triangle of the corner at a place among those that are left.
func earAt(left []int, at int) impl.Tri {
	n := len(left)
	return tri(left[(at+n-1)%n], left[at], left[(at+1)%n])
}

// isPlainEar is told by areas alone.
func isPlainEar(l []impl.Pt, left []int, at int) bool {
	ear := earAt(left, at)
	three := cornersOf(l, ear)
	if signOfInt(plainArea(three)) != signOfInt(plainArea(l)) {
		return false
	}
	for _, other := range left {
		if other != ear.A && other != ear.B && other != ear.C && isPlainIn(three, l[other]) {
			return false
		}
	}
	return true
}

func allNumbers(n int) []int {
	all := make([]int, n)
	for i := range all {
		all[i] = i
	}
	return all
}

func plainEars(l []impl.Pt) []int {
	ears := []int{}
	for i := range l {
		if isPlainEar(l, allNumbers(len(l)), i) {
			ears = append(ears, i)
		}
	}
	return ears
}

// isEarByCut looks into no triangle: it cuts the corner off and asks whether what is left is a simple way that turns alike and covers less.
func isEarByCut(t *testing.T, l []impl.Pt, at int) bool {
	t.Helper()
	if len(l) == 3 {
		return true
	}
	rest := slices.Delete(slices.Clone(l), at, at+1)
	simple, ok := impl.IsSimple(rest)
	if !ok {
		t.Fatalf("IsSimple %v: refused", rest)
	}
	whole, left := plainArea(l), plainArea(rest)
	return simple && signOfInt(left) == signOfInt(whole) && away(left) < away(whole)
}

// plainTris takes corners out of a list.
func plainTris(l []impl.Pt) []impl.Tri {
	left := allNumbers(len(l))
	tris := []impl.Tri{}
	for len(left) > 3 {
		at := 0
		for !isPlainEar(l, left, at) {
			at++
		}
		tris = append(tris, earAt(left, at))
		left = slices.Delete(left, at, at+1)
	}
	return append(tris, tri(left[0], left[1], left[2]))
}

// plainColours looks for any triangle with two colours, in no order, till all corners have one.
func plainColours(l []impl.Pt) []int {
	tris := plainTris(l)
	last := tris[len(tris)-1]
	has := map[int]int{last.A: 0, last.B: 1, last.C: 2}
	for len(has) < len(l) {
		for _, x := range tris {
			left, missing := 3, []int{}
			for _, number := range []int{x.A, x.B, x.C} {
				if colour, ok := has[number]; ok {
					left -= colour
				} else {
					missing = append(missing, number)
				}
			}
			if len(missing) == 1 {
				has[missing[0]] = left
			}
		}
	}
	colours := make([]int, len(l))
	for number, colour := range has {
		colours[number] = colour
	}
	return colours
}

func plainGuards(l []impl.Pt) []int {
	byColour := make([][]int, 3)
	for number, colour := range plainColours(l) {
		byColour[colour] = append(byColour[colour], number)
	}
	return slices.MinFunc(byColour, func(a, b []int) int { return len(a) - len(b) })
}

// isPlainTriangulation is by the words of the document, by areas.
func isPlainTriangulation(l []impl.Pt, tris []impl.Tri) bool {
	sum := 0
	for _, x := range tris {
		for _, number := range []int{x.A, x.B, x.C} {
			if number < 0 || number >= len(l) {
				return false
			}
		}
		area := plainArea(cornersOf(l, x))
		if signOfInt(area) != signOfInt(plainArea(l)) {
			return false
		}
		sum += area
	}
	return len(tris) == len(l)-2 && sum == plainArea(l)
}

func wantInts(t *testing.T, what string, args any, l []int, ok bool, want []int) {
	t.Helper()
	if !slices.Equal(l, want) || !ok {
		t.Fatalf("%s %v: %v %v, want %v", what, args, l, ok, want)
	}
}

func wantEars(t *testing.T, l []impl.Pt, want []int) {
	t.Helper()
	ears, ok := impl.EarsOf(l)
	wantInts(t, "EarsOf", l, ears, ok, want)
}

func wantTris(t *testing.T, l []impl.Pt, want []impl.Tri) {
	t.Helper()
	tris, ok := impl.Triangulate(l)
	if !slices.Equal(tris, want) || !ok {
		t.Fatalf("Triangulate %v: %v %v, want %v", l, tris, ok, want)
	}
}

func wantColours(t *testing.T, l []impl.Pt, want []int) {
	t.Helper()
	colours, ok := impl.ColourThree(l)
	wantInts(t, "ColourThree", l, colours, ok, want)
}

func wantGuards(t *testing.T, l []impl.Pt, want []int) {
	t.Helper()
	guards, ok := impl.GuardsOf(l)
	wantInts(t, "GuardsOf", l, guards, ok, want)
}

func wantIsTriangulation(t *testing.T, l []impl.Pt, tris []impl.Tri, want bool) {
	t.Helper()
	is, ok := impl.IsTriangulation(l, tris)
	wantFlag(t, "IsTriangulation", []any{l, tris}, is, ok, want)
}

func wantSees(t *testing.T, l []impl.Pt, guard int, x impl.Tri, want bool) {
	t.Helper()
	sees, ok := impl.Sees(l, guard, x)
	wantFlag(t, "Sees", []any{l, guard, x}, sees, ok, want)
}

// wantIn asks by all orders of the corners, which turn left and right.
func wantIn(t *testing.T, a, b, c, p impl.Pt, want bool) {
	t.Helper()
	for _, l := range [][]impl.Pt{{a, b, c}, {b, c, a}, {c, a, b}, {a, c, b}, {c, b, a}, {b, a, c}} {
		in, ok := impl.InTriangle(l[0], l[1], l[2], p)
		wantFlag(t, "InTriangle", []any{l, p}, in, ok, want)
	}
}

// sumTo is the sum of 1 to n.
func sumTo(n int) int {
	return n * (n + 1) / 2
}

// fan has n corners, of which all but three turn right, though the way goes round to the left: its ears are 1 and n - 1 alone, and all triangles have the corner 0.
func fan(n int) []impl.Pt {
	l := wayOf(0, 0)
	for k := range n - 1 {
		l = append(l, pt(sumTo(n-2-k), sumTo(k)))
	}
	return l
}

// teeth has MaxCorners corners, and four tips, no two of which are seen from one corner.
func teeth() []impl.Pt {
	return wayOf(0, 0, 21, 0, 20, 20, 18, 1, 15, 1, 14, 20, 12, 1, 9, 1, 8, 20, 6, 1, 3, 1, 1, 20)
}

// dentIn is a way whose corner 3 is moved; it lies within the triangle of the corner 0, on its side, or beyond it.
func dentIn(at impl.Pt) []impl.Pt {
	return []impl.Pt{pt(0, 0), pt(6, 0), pt(5, 4), at, pt(4, 5), pt(0, 6)}
}

// triCase has a simple way, and all that is told of it.
type triCase struct {
	why             string
	l               []impl.Pt
	ears            []int
	tris            []impl.Tri
	colours, guards []int
}

func triCases() []triCase {
	return []triCase{
		{"a triangle, to the left", wayOf(0, 0, 3, 0, 0, 3), []int{0, 1, 2}, trisOf(0, 1, 2), []int{0, 1, 2}, []int{0}},
		{"a triangle, to the right", wayOf(0, 0, 0, 3, 3, 0), []int{0, 1, 2}, trisOf(0, 1, 2), []int{0, 1, 2}, []int{0}},
		{"a needle", wayOf(-far, -far, far, far, far, far-1), []int{0, 1, 2}, trisOf(0, 1, 2), []int{0, 1, 2}, []int{0}},
		{"a square, to the left", square(4), []int{0, 1, 2, 3}, trisOf(3, 0, 1, 1, 2, 3), []int{1, 0, 1, 2}, []int{1}},
		{"a square, to the right", wayOf(0, 0, 0, 4, 4, 4, 4, 0), []int{0, 1, 2, 3}, trisOf(3, 0, 1, 1, 2, 3), []int{1, 0, 1, 2}, []int{1}},
		{"the whole grid", wayOf(-far, -far, far, -far, far, far, -far, far), []int{0, 1, 2, 3}, trisOf(3, 0, 1, 1, 2, 3), []int{1, 0, 1, 2}, []int{1}},
		{"five corners, convex", longWay(5), []int{0, 1, 2, 3, 4}, trisOf(4, 0, 1, 4, 1, 2, 2, 3, 4), []int{0, 1, 0, 1, 2}, []int{4}},
		{"six corners, convex", longWay(6), []int{0, 1, 2, 3, 4, 5}, trisOf(5, 0, 1, 5, 1, 2, 5, 2, 3, 3, 4, 5), []int{1, 0, 1, 0, 1, 2}, []int{5}},
		{"bends inward: the corner ahead of it has that within", wayOf(0, 0, 4, 0, 1, 1, 0, 4), []int{1, 3}, trisOf(0, 1, 2, 0, 2, 3), []int{0, 2, 1, 2}, []int{0}},
		{"bends inward at the first corner", wayOf(1, 1, 0, 4, 0, 0, 4, 0), []int{1, 3}, trisOf(0, 1, 2, 0, 2, 3), []int{0, 2, 1, 2}, []int{0}},
		{"bends inward, to the right", wayOf(0, 0, 0, 4, 1, 1, 4, 0), []int{1, 3}, trisOf(0, 1, 2, 0, 2, 3), []int{0, 2, 1, 2}, []int{0}},
		{"bends inward from above", wayOf(0, 0, 4, 0, 4, 4, 2, 1, 0, 4), []int{2, 4}, trisOf(1, 2, 3, 0, 1, 3, 0, 3, 4), []int{0, 2, 0, 1, 2}, []int{3}},
		{"a corner on the segment of its neighbours", wayOf(0, 0, 2, 0, 4, 0, 0, 4), []int{0, 2}, trisOf(3, 0, 1, 1, 2, 3), []int{1, 0, 1, 2}, []int{1}},
		{"the first corner on the segment of its neighbours", wayOf(2, 0, 4, 0, 0, 4, 0, 0), []int{1, 3}, trisOf(0, 1, 2, 0, 2, 3), []int{0, 2, 1, 2}, []int{0}},
		{"a straight corner on the side of a corner's triangle", wayOf(0, 0, 4, 0, 2, 2, 0, 4), []int{1, 3}, trisOf(0, 1, 2, 0, 2, 3), []int{0, 2, 1, 2}, []int{0}},
		{"another corner within a corner's triangle", dentIn(pt(2, 2)), []int{1, 2, 4, 5}, trisOf(0, 1, 2, 0, 2, 3, 5, 0, 3, 3, 4, 5), []int{1, 0, 2, 0, 1, 2}, []int{1, 3}},
		{"another corner on the side of a corner's triangle", dentIn(pt(3, 3)), []int{1, 2, 4, 5}, trisOf(0, 1, 2, 0, 2, 3, 5, 0, 3, 3, 4, 5), []int{1, 0, 2, 0, 1, 2}, []int{1, 3}},
		{"another corner just beyond a corner's triangle", dentIn(pt(4, 4)), []int{0, 1, 2, 4, 5}, trisOf(5, 0, 1, 1, 2, 3, 5, 1, 3, 3, 4, 5), []int{0, 1, 2, 0, 1, 2}, []int{0, 3}},
	}
}

// simpleForTris are simple ways of all that triangles may hang on, each begun at each corner, and each the other way round as well.
func simpleForTris(r *rand.Rand) [][]impl.Pt {
	ways := append(simpleWays(), teeth(), sixteen(1)[:12], sixteen(222)[4:])
	for _, c := range triCases() {
		ways = append(ways, c.l)
	}
	for n := 3; n <= impl.MaxCorners; n++ {
		ways = append(ways, longWay(n))
		if n > 3 {
			ways = append(ways, fan(n))
		}
		for _, wide := range []int{3, 6, 20, far} {
			ways = append(ways, someSimple(r, n, wide))
		}
	}
	all := [][]impl.Pt{}
	for _, l := range ways {
		for i := range l {
			all = append(all, begunAt(l, i), begunAt(backwards(l), i))
		}
	}
	return all
}

// wrongNumbers are of no corner of a way of n.
func wrongNumbers(n int) []int {
	return []int{-1, n, n + 1, -n, impl.MaxCorners, 1 << 32, -1 << 32, math.MinInt, math.MaxInt, math.MinInt + 1, math.MaxInt - 1}
}

// withNumber changes one of the three numbers.
func withNumber(x impl.Tri, at, number int) impl.Tri {
	switch at {
	case 0:
		x.A = number
	case 1:
		x.B = number
	default:
		x.C = number
	}
	return x
}
