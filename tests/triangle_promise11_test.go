package tests

import (
	"slices"
	"testing"

	"loop.example/g00409/impl"
)

// checkTwoEars: a simple way has two ears at least; where it has more than three corners, two of them that are not next to each other. It tells how many it has.
func checkTwoEars(t *testing.T, l []impl.Pt) int {
	t.Helper()
	ears, ok := impl.EarsOf(l)
	if !ok || len(ears) < 2 {
		t.Fatalf("EarsOf %v: %v %v", l, ears, ok)
	}
	apart := len(l) == 3
	for i := range l {
		if slices.Contains(ears, i) != isEarByCut(t, l, i) {
			t.Fatalf("EarsOf %v: %v; cut off, %d is the other thing", l, ears, i)
		}
		if slices.Contains(ears, i) {
			for _, other := range ears {
				apart = apart || other != i && (other+1)%len(l) != i && (i+1)%len(l) != other
			}
		}
	}
	if !apart {
		t.Fatalf("EarsOf %v: %v: no two apart", l, ears)
	}
	if !slices.Equal(ears, plainEars(l)) {
		t.Fatalf("EarsOf %v: %v, told by areas %v", l, ears, plainEars(l))
	}
	return len(ears)
}

// checkCut: the triangles make up the way, each cut off as an ear of what is left.
func checkCut(t *testing.T, l []impl.Pt) []impl.Tri {
	t.Helper()
	wantTris(t, l, plainTris(l))
	tris, _ := impl.Triangulate(l)
	wantIsTriangulation(t, l, tris, true)
	left, numbers := slices.Clone(l), allNumbers(len(l))
	for _, x := range tris[:len(tris)-1] {
		at := slices.Index(numbers, x.B)
		ears, ok := impl.EarsOf(left)
		if !ok || ears[0] != at || x != earAt(numbers, at) {
			t.Fatalf("%v: %v is cut off, left are %v with the ears %v", l, x, numbers, ears)
		}
		left, numbers = slices.Delete(left, at, at+1), slices.Delete(numbers, at, at+1)
	}
	if last := tris[len(tris)-1]; last != tri(numbers[0], numbers[1], numbers[2]) {
		t.Fatalf("%v: the last triangle is %v, left are %v", l, last, numbers)
	}
	return tris
}

// checkColours: three colours do for all triangles, and the corners of one of them, a third at most, see them all.
func checkColours(t *testing.T, l []impl.Pt, tris []impl.Tri) []int {
	t.Helper()
	colours, ok := impl.ColourThree(l)
	wantInts(t, "ColourThree", l, colours, ok, plainColours(l))
	for _, x := range tris {
		three := []int{colours[x.A], colours[x.B], colours[x.C]}
		slices.Sort(three)
		if !slices.Equal(three, []int{0, 1, 2}) {
			t.Fatalf("%v: the triangle %v has the colours %v", l, x, three)
		}
	}
	if last := tris[len(tris)-1]; colours[last.A] != 0 || colours[last.B] != 1 || colours[last.C] != 2 {
		t.Fatalf("%v: the last triangle %v of the colours %v", l, last, colours)
	}
	guards, ok := impl.GuardsOf(l)
	wantInts(t, "GuardsOf", l, guards, ok, plainGuards(l))
	if len(guards) == 0 || len(guards) > len(l)/3 || !slices.IsSorted(guards) {
		t.Fatalf("%v: guards %v", l, guards)
	}
	for _, x := range tris {
		seen := 0
		for _, guard := range guards {
			sees, ok := impl.Sees(l, guard, x)
			if !ok {
				t.Fatalf("Sees %v %v %v: refused", l, guard, x)
			}
			if sees {
				seen++
			}
		}
		if seen != 1 {
			t.Fatalf("%v: %v is seen by %d of %v", l, x, seen, guards)
		}
	}
	return guards
}

// checkTriangles is promise 11 for a simple way.
func checkTriangles(t *testing.T, l []impl.Pt) (int, []int) {
	t.Helper()
	ears := checkTwoEars(t, l)
	return ears, checkColours(t, l, checkCut(t, l))
}

// checkCovered: each point of the grid within a way, or on it, is in one of its triangles, and no other one is; none is within two of them.
func checkCovered(t *testing.T, l []impl.Pt) {
	t.Helper()
	tris, ok := impl.Triangulate(l)
	if !ok {
		t.Fatalf("Triangulate %v: refused", l)
	}
	lo, hi, _ := impl.BoxOf(l)
	for _, p := range inBox(lo, hi) {
		in, within := 0, 0
		for _, x := range tris {
			three := cornersOf(l, x)
			has, ok := impl.InTriangle(three[0], three[1], three[2], p)
			on, okOn := impl.OnWay(three, p)
			if !ok || !okOn {
				t.Fatalf("%v: the triangle %v is refused", l, x)
			}
			if has {
				in++
			}
			if has && !on {
				within++
			}
		}
		on, _ := impl.OnWay(l, p)
		inside, _ := impl.Inside(l, p, true)
		if (on || inside) != (in > 0) || within > 1 || within == 1 && in > 1 {
			t.Fatalf("%v at %v: on %v, inside %v, in %d triangles %v, within %d", l, p, on, inside, in, tris, within)
		}
	}
}

func TestPromise11EdgeWays(t *testing.T) {
	for _, l := range simpleForTris(fixed(125)) {
		checkTriangles(t, l)
	}
}

func TestPromise11AllSmallWays(t *testing.T) {
	ears, simple := map[int]int{}, 0
	for _, c := range []struct{ corners, side int }{{3, 5}, {4, 4}, {5, 3}, {6, 3}} {
		eachWay(c.corners, c.side, func(l []impl.Pt) {
			if is, ok := impl.IsSimple(l); !is || !ok {
				return
			}
			simple++
			many, _ := checkTriangles(t, l)
			ears[many]++
		})
	}
	for n := 2; n <= 5; n++ {
		if ears[n] == 0 {
			t.Error("no way with as many ears:", n, ears, simple)
		}
	}
}

func TestPromise11SomeWays(t *testing.T) {
	r := fixed(126)
	corners, ears := map[int]int{}, map[int]int{}
	for n := 3; n <= impl.MaxCorners; n++ {
		for _, wide := range []int{3, 6, 20, 100, far} {
			for range 12 {
				l := someSimple(r, n, wide)
				many, _ := checkTriangles(t, l)
				corners[len(l)]++
				ears[many]++
				checkTriangles(t, backwards(l))
			}
		}
	}
	for n := 3; n <= impl.MaxCorners; n++ {
		if corners[n] < 10 {
			t.Error("few ways of as many corners:", n, corners)
		}
	}
	for n := 2; n <= 6; n++ {
		if ears[n] == 0 {
			t.Error("no way with as many ears:", n, ears)
		}
	}
}

func TestPromise11Covered(t *testing.T) {
	r := fixed(127)
	for _, l := range [][]impl.Pt{square(4), comb(9), comb(3), teeth(), fan(6), fan(impl.MaxCorners), backwards(fan(7)), dentIn(pt(2, 2)), dentIn(pt(3, 3)), dentIn(pt(4, 4))} {
		checkCovered(t, l)
		checkCovered(t, backwards(l))
	}
	for n := 3; n <= impl.MaxCorners; n++ {
		for range 10 {
			checkCovered(t, someSimple(r, n, 3))
			checkCovered(t, someSimple(r, n, 9))
		}
	}
}

// A third of the corners may be needed: no two tips of the teeth are in triangles of one corner.
func TestPromise11AThirdIsNeeded(t *testing.T) {
	for i := range teeth() {
		for _, l := range [][]impl.Pt{begunAt(teeth(), i), begunAt(backwards(teeth()), i)} {
			if _, guards := checkTriangles(t, l); len(guards) != len(l)/3 {
				t.Errorf("%v: guards %v", l, guards)
			}
		}
	}
}

// Just two ears, at any number of corners, and wherever the way is begun.
func TestPromise11JustTwoEars(t *testing.T) {
	for n := 4; n <= impl.MaxCorners; n++ {
		for i := range n {
			for _, l := range [][]impl.Pt{begunAt(fan(n), i), begunAt(backwards(fan(n)), i)} {
				if many, guards := checkTriangles(t, l); many != 2 || len(guards) != 1 {
					t.Errorf("%v: %d ears, guards %v", l, many, guards)
				}
			}
		}
	}
}

// A corner put on a segment is no ear, and keeps no corner beside it from the ways that are left.
func TestPromise11CornersOnSegments(t *testing.T) {
	r := fixed(128)
	put := 0
	for range 400 {
		l := someSimple(r, 3+r.IntN(5), 12)
		for range 4 {
			i := r.IntN(len(l))
			steps := stepsOf(l[i], l[(i+1)%len(l)])
			if len(steps) > 2 {
				l = slices.Insert(l, i+1, steps[1+r.IntN(len(steps)-2)])
				put++
				if ears, _ := impl.EarsOf(l); slices.Contains(ears, i+1) {
					t.Fatalf("%v: %d is on a segment: %v", l, i+1, ears)
				}
			}
		}
		checkTriangles(t, l)
		checkTriangles(t, backwards(l))
	}
	if put < 100 {
		t.Error("corners put on segments:", put)
	}
}

// Moved with its way all is the same.
func TestPromise11Moved(t *testing.T) {
	r := fixed(129)
	for range 200 {
		l := someSimple(r, 3+r.IntN(impl.MaxCorners-2), 8)
		moved, ok := impl.MovePts(l, somePt(r, far-8))
		if !ok {
			t.Fatal("MovePts: refused")
		}
		wantEars(t, moved, plainEars(l))
		wantTris(t, moved, plainTris(l))
		wantColours(t, moved, plainColours(l))
		wantGuards(t, moved, plainGuards(l))
	}
}
