package tests

import (
	"math/big"
	"math/rand/v2"
	"slices"
	"testing"

	"loop.example/g00409/impl"
)

const far = impl.MaxCoord

func pt(x, y int) impl.Pt {
	return impl.Pt{X: x, Y: y}
}

// wayOf takes X and Y by turns.
func wayOf(coords ...int) []impl.Pt {
	l := make([]impl.Pt, len(coords)/2)
	for i := range l {
		l[i] = pt(coords[2*i], coords[2*i+1])
	}
	return l
}

func away(n int) int {
	if n < 0 {
		return -n
	}
	return n
}

// stepsOf goes from a to b by the shortest step from one point of the grid to another one: all points of the grid on the segment, both ends among them.
func stepsOf(a, b impl.Pt) []impl.Pt {
	dx, dy := b.X-a.X, b.Y-a.Y
	many := max(away(dx), away(dy))
	all := []impl.Pt{}
	for i := range many + 1 {
		if many == 0 {
			return []impl.Pt{a}
		}
		if i*dx%many == 0 && i*dy%many == 0 {
			all = append(all, pt(a.X+i*dx/many, a.Y+i*dy/many))
		}
	}
	return all
}

func isOn(a, b, p impl.Pt) bool {
	return slices.Contains(stepsOf(a, b), p)
}

// plainTurn is the sign of a determinant with a row for each point.
func plainTurn(a, b, c impl.Pt) int {
	return plainDet(matrixOf([]int{1, a.X, a.Y}, []int{1, b.X, b.Y}, []int{1, c.X, c.Y})).Sign()
}

// inCommon are the points that two segments have: none, one or more (2). It finds where on both lines they meet, by fractions, which the program does not.
func inCommon(a, b, c, d impl.Pt) int {
	rx, ry, sx, sy := int64(b.X-a.X), int64(b.Y-a.Y), int64(d.X-c.X), int64(d.Y-c.Y)
	qx, qy := int64(c.X-a.X), int64(c.Y-a.Y)
	if det := rx*sy - ry*sx; det != 0 {
		if isPart(big.NewRat(qx*sy-qy*sx, det)) && isPart(big.NewRat(qx*ry-qy*rx, det)) {
			return 1
		}
		return 0
	}
	// Beside each other, on one line, or points: where they meet, they do with an end.
	ends := map[impl.Pt]bool{}
	for _, p := range []impl.Pt{a, b} {
		ends[p] = isOn(c, d, p)
	}
	for _, p := range []impl.Pt{c, d} {
		ends[p] = ends[p] || isOn(a, b, p)
	}
	many := 0
	for _, on := range ends {
		if on {
			many++
		}
	}
	return min(many, 2)
}

func isPart(x *big.Rat) bool {
	return x.Sign() >= 0 && x.Cmp(big.NewRat(1, 1)) <= 0
}

func isPlainSimple(l []impl.Pt) bool {
	n := len(l)
	for i := range l {
		a, b := l[i], l[(i+1)%n]
		if a == b {
			return false
		}
		for j := i + 1; j < n; j++ {
			most := 0
			if j == i+1 || i == 0 && j == n-1 {
				most = 1
			}
			if inCommon(a, b, l[j], l[(j+1)%n]) > most {
				return false
			}
		}
	}
	return true
}

// plainArea sums up triangles with the first corner, as a determinant each.
func plainArea(l []impl.Pt) int {
	sum := 0
	for i := 2; i < len(l); i++ {
		a, b, c := l[0], l[i-1], l[i]
		sum += (b.X-a.X)*(c.Y-a.Y) - (b.Y-a.Y)*(c.X-a.X)
	}
	return sum
}

// plainBorder counts all points of the grid on segments, of each one without its first end.
func plainBorder(l []impl.Pt) int {
	sum := 0
	for i, a := range l {
		sum += len(stepsOf(a, l[(i+1)%len(l)])) - 1
	}
	return sum
}

// plainInner goes through all points of the grid that lie in the box of the way: one that is on no segment is within, if a half-line to the right crosses an odd number of segments.
func plainInner(l []impl.Pt) int {
	lo, hi := l[0], l[0]
	on := map[impl.Pt]bool{}
	for i, a := range l {
		lo, hi = pt(min(lo.X, a.X), min(lo.Y, a.Y)), pt(max(hi.X, a.X), max(hi.Y, a.Y))
		for _, p := range stepsOf(a, l[(i+1)%len(l)]) {
			on[p] = true
		}
	}
	many := 0
	for y := lo.Y; y <= hi.Y; y++ {
		for x := lo.X; x <= hi.X; x++ {
			if !on[pt(x, y)] && crossesOddly(l, x, y) {
				many++
			}
		}
	}
	return many
}

func crossesOddly(l []impl.Pt, x, y int) bool {
	odd := false
	for i, a := range l {
		b := l[(i+1)%len(l)]
		if a.Y > b.Y {
			a, b = b, a
		}
		if a.Y <= y && y < b.Y && (x-a.X)*(b.Y-a.Y) < (y-a.Y)*(b.X-a.X) {
			odd = !odd
		}
	}
	return odd
}

func wantFlag(t *testing.T, what string, args any, is, ok, want bool) {
	t.Helper()
	if is != want || !ok {
		t.Fatalf("%s %v: %v %v, want %v", what, args, is, ok, want)
	}
}

func wantInt(t *testing.T, what string, args any, n int, ok bool, want int) {
	t.Helper()
	if n != want || !ok {
		t.Fatalf("%s %v: %v %v, want %v", what, args, n, ok, want)
	}
}

func wantPts(t *testing.T, what string, args any, l []impl.Pt, ok bool, want []impl.Pt) {
	t.Helper()
	if !slices.Equal(l, want) || !ok {
		t.Fatalf("%s %v: %v %v, want %v", what, args, l, ok, want)
	}
}

// wantInner: of a way that is not simple no count is told.
func wantInner(t *testing.T, l []impl.Pt, simple bool, want int) {
	t.Helper()
	n, ok := impl.InnerPoints(l)
	if !simple {
		want = 0
	}
	if n != want || ok != simple {
		t.Fatalf("InnerPoints %v: %v %v, want %v %v", l, n, ok, want, simple)
	}
}

// begunAt is the same way, from another corner on.
func begunAt(l []impl.Pt, at int) []impl.Pt {
	return append(slices.Clone(l[at:]), l[:at]...)
}

func backwards(l []impl.Pt) []impl.Pt {
	back := slices.Clone(l)
	slices.Reverse(back)
	return back
}

func somePt(r *rand.Rand, far int) impl.Pt {
	return pt(r.IntN(2*far+1)-far, r.IntN(2*far+1)-far)
}

func somePts(r *rand.Rand, n, far int) []impl.Pt {
	l := make([]impl.Pt, n)
	for i := range l {
		l[i] = somePt(r, far)
	}
	return l
}

// someSimple begins with a triangle, and puts corners where the way stays simple.
func someSimple(r *rand.Rand, n, far int) []impl.Pt {
	l := []impl.Pt{}
	for len(l) == 0 || !isPlainSimple(l) {
		l = somePts(r, 3, far)
	}
	for tries := 0; len(l) < n && tries < 200; tries++ {
		longer := slices.Insert(slices.Clone(l), r.IntN(len(l)+1), somePt(r, far))
		if isPlainSimple(longer) {
			l = longer
		}
	}
	return l
}

// gridOf are all points of a square, from 0 to side - 1.
func gridOf(side int) []impl.Pt {
	all := []impl.Pt{}
	for x := range side {
		for y := range side {
			all = append(all, pt(x, y))
		}
	}
	return all
}

// eachWay goes through all ways of n corners of a square.
func eachWay(n, side int, do func(l []impl.Pt)) {
	grid := gridOf(side)
	l := make([]impl.Pt, n)
	var fill func(at int)
	fill = func(at int) {
		if at == n {
			do(l)
			return
		}
		for _, p := range grid {
			l[at] = p
			fill(at + 1)
		}
	}
	fill(0)
}

// comb has MaxCorners corners, and as long teeth as given.
func comb(long int) []impl.Pt {
	return wayOf(0, 0, 10, 0, 10, long, 8, long, 8, 2, 6, 2, 6, long, 4, long, 4, 2, 2, 2, 2, long, 0, long)
}

// simpleWays are simple, each for one reason not quite plainly so.
func simpleWays() [][]impl.Pt {
	return [][]impl.Pt{
		wayOf(0, 0, 1, 0, 0, 1), wayOf(0, 0, 3, 0, 0, 3), wayOf(0, 0, 7, 1, 2, 9), wayOf(0, 0, 1000, 999, 999, 998), wayOf(0, 0, 1, 2, 2, 3),
		wayOf(0, 0, 1, 0, 1, 1, 0, 1), wayOf(0, 0, 4, 0, 4, 3, 0, 3), wayOf(2, 0, 4, 2, 2, 4, 0, 2), wayOf(0, 0, 4, 1, 0, 2, 1, 1),
		wayOf(-far, -far, far, -far, far, far, -far, far), wayOf(-far, -far, far, -far, far, far), wayOf(-far, -far, far, far, far, far-1), wayOf(-far, 0, 0, -far, far, 0, 0, far),
		// Three corners and more on one line: straight on.
		wayOf(0, 0, 2, 0, 4, 0, 0, 4), wayOf(0, 0, 1, 0, 2, 0, 3, 0, 3, 1, 0, 1), wayOf(0, 0, 4, 0, 2, 2, 0, 4, 0, 3, 0, 1), wayOf(1, 1, 2, 2, 3, 3, 0, 9),
		// Corners and segments on the line of another segment, but not on it.
		wayOf(0, 0, 2, 0, 3, 2, 4, 0, 6, 0, 3, 5), wayOf(0, 0, 4, 0, 4, 4, 3, 4, 3, 2, 1, 2, 1, 4, 0, 4),
		comb(9), comb(3), backwards(comb(9)),
		wayOf(0, 0, 9, 0, 9, 9, 1, 9, 1, 3, 5, 3, 5, 5, 3, 5, 3, 7, 7, 7, 7, 1, 0, 1),
	}
}

// wayNotSimple has a name for what is amiss.
type wayNotSimple struct {
	why string
	way []impl.Pt
}

func notSimpleWays() []wayNotSimple {
	return []wayNotSimple{
		{"crosses itself", wayOf(0, 0, 2, 2, 2, 0, 0, 2)},
		{"crosses itself between points of the grid", wayOf(0, 0, 3, 3, 3, 0, 0, 2)},
		{"crosses itself far away", wayOf(-far, -far, far, far, far, -far, -far, far)},
		{"a star", wayOf(0, 3, 6, 3, 1, 0, 3, 5, 5, 0)},
		{"one point", wayOf(5, 5, 5, 5, 5, 5)},
		{"a first segment that is a point", wayOf(0, 0, 0, 0, 4, 0, 0, 4)},
		{"a segment that is a point", wayOf(0, 0, 4, 0, 4, 0, 0, 4)},
		{"a last segment that is a point", wayOf(0, 0, 4, 0, 0, 4, 0, 0)},
		{"a triangle with two points alike", wayOf(0, 0, 4, 0, 4, 0)},
		{"a triangle begun and ended alike", wayOf(0, 0, 4, 0, 0, 0)},
		{"a triangle on one line", wayOf(0, 0, 2, 0, 4, 0)},
		{"a triangle on one line, askew", wayOf(0, 0, 6, 3, 2, 1)},
		{"there and back", wayOf(0, 0, 2, 2, 4, 4, 2, 2)},
		{"folds back by a part", wayOf(0, 0, 4, 0, 2, 0, 2, 4)},
		{"folds back beyond the beginning", wayOf(0, 0, 4, 0, -2, 0, 0, 4)},
		{"folds back to the beginning", wayOf(0, 0, 4, 0, 0, 0, 0, 4)},
		{"folds back at the first corner", wayOf(0, 0, 4, 0, 4, 4, 2, 4, 2, 0)},
		{"a last segment that lies on the first one", wayOf(0, 0, 4, 0, 4, 4, 3, 0)},
		{"a first segment that lies on the last one", wayOf(0, 0, 1, 0, 4, 4, 4, 0)},
		{"folds back upright", wayOf(0, 0, 0, 4, 0, 1, 4, 1)},
		{"a needle", wayOf(0, 0, 4, 0, 4, 4, 6, 6, 4, 4, 0, 4)},
		{"touches itself in a corner of both", wayOf(0, 0, 2, 2, 4, 0, 4, 4, 2, 2, 0, 4)},
		{"touches itself with a corner", wayOf(0, 0, 4, 0, 4, 4, 2, 0, 0, 4)},
		{"touches its last segment with a corner", wayOf(0, 0, 4, 0, 0, 2, 4, 4, 0, 4)},
		{"touches its first segment with a corner", wayOf(0, 0, 8, 0, 8, 4, 3, 0, 0, 4)},
		{"segments lie on each other", wayOf(0, 0, 6, 0, 6, 2, 4, 0, 2, 0, 0, 2)},
		{"segments one on another touch in one point", wayOf(0, 0, 2, 0, 3, 3, 2, 3, 2, 0, 4, 0, 4, 9, 0, 9)},
		{"two triangles with one corner", wayOf(0, 0, 4, 4, 4, 0, 0, 0, -4, -4, -4, 0)},
		{"all twice", wayOf(0, 0, 4, 0, 0, 4, 0, 0, 4, 0, 0, 4)},
		{"all corners on one line", wayOf(0, 0, 1, 0, 2, 0, 3, 0, 4, 0, 5, 0, 6, 0, 7, 0, 8, 0, 9, 0, 10, 0, 11, 0)},
		{"a comb with a tooth through its back", append(comb(9)[:8:8], wayOf(4, -1, 2, 2, 2, 9, 0, 9)...)},
	}
}

func beyondPts() []impl.Pt {
	return []impl.Pt{
		pt(far+1, 0), pt(-far-1, 0), pt(0, far+1), pt(0, -far-1), pt(far+1, far+1), pt(-far-1, -far-1), pt(far+1, -far), pt(far, -far-1),
		pt(1<<62, 0), pt(0, 1<<62), pt(1<<63-1, 1<<63-1), pt(-1<<63, 0), pt(0, -1<<63), pt(-1<<63, -1<<63), pt(1<<32, 1<<32),
	}
}

// longWay is simple, with as many points as given, each one turning left.
func longWay(n int) []impl.Pt {
	l := make([]impl.Pt, n)
	for i := range l {
		l[i] = pt(i, i*(i-1)/2)
	}
	return l
}

// wrongWays are none, each for one reason: too few or too many points, or one beyond the grid.
func wrongWays() [][]impl.Pt {
	wrong := [][]impl.Pt{
		nil, {}, wayOf(0, 0), wayOf(0, 0, 1, 0), wayOf(far, far, -far, -far), longWay(impl.MaxCorners + 1), longWay(40), make([]impl.Pt, impl.MaxCorners+1), make([]impl.Pt, 3000),
	}
	for _, p := range beyondPts() {
		for _, n := range []int{3, 4, impl.MaxCorners} {
			for _, at := range []int{0, 1, n - 1} {
				l := longWay(n)
				l[at] = p
				wrong = append(wrong, l)
			}
		}
	}
	return wrong
}

// eachWayWithOneBeyond goes through ways of all lengths that have one point beyond the grid, at each place in its turn.
func eachWayWithOneBeyond(do func(l []impl.Pt, at int)) {
	for n := 3; n <= impl.MaxCorners; n++ {
		for at := range n {
			for _, from := range [][]impl.Pt{longWay(n), make([]impl.Pt, n)} {
				for _, p := range wayOf(far+1, 0, -far-1, 0, 0, far+1, 0, -far-1) {
					l := slices.Clone(from)
					l[at] = p
					do(l, at)
				}
			}
		}
	}
}
