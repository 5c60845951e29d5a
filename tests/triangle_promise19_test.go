package tests

import (
	"slices"
	"testing"

	"loop.example/g00409/impl"
)

// callsThatList are the functions of the chapter that take a simple way alone, and answer a list.
func callsThatList() []any {
	return []any{impl.EarsOf, impl.Triangulate, impl.ColourThree, impl.GuardsOf}
}

// callsOfSimple are all that take a simple way.
func callsOfSimple(tris []impl.Tri) []wayCall {
	calls := []wayCall{{impl.IsTriangulation, []any{tris}}}
	for _, f := range callsThatList() {
		calls = append(calls, wayCall{f, nil})
	}
	return calls
}

// callsOfTriangles are all functions of the chapter that take a way.
func callsOfTriangles(tris []impl.Tri) []wayCall {
	return append(callsOfSimple(tris), wayCall{impl.Sees, []any{0, tri(0, 1, 2)}}, wayCall{impl.Sees, []any{2, tri(1, 0, 1)}})
}

func TestPromise19GoodTriangles(t *testing.T) {
	for i, l := range simpleForTris(fixed(130)) {
		tris := plainTris(l)
		for _, c := range callsOfTriangles(tris) {
			watchTold(t, c.f, c.with(l)...)
		}
		if i%7 > 0 {
			continue
		}
		for _, other := range [][]impl.Tri{nil, {}, tris[1:], append(slices.Clone(tris), tris...), make([]impl.Tri, 40), trisOf(-1, len(l), 1<<62)} {
			watchTold(t, impl.IsTriangulation, l, other)
		}
		for guard := range l {
			watchTold(t, impl.Sees, l, guard, tris[0])
		}
	}
	r := fixed(131)
	for range 300 {
		l := somePts(r, 4, far)
		watch(t, impl.InTriangle, l[0], l[1], l[2], l[3])
	}
}

// A point beyond the grid at each place, though the others would tell the answer already.
func TestPromise19WrongInTriangle(t *testing.T) {
	fine := [][]impl.Pt{wayOf(0, 0, 4, 0, 0, 4, 1, 1), wayOf(0, 0, 0, 4, 4, 0, 9, 9), wayOf(0, 0, 4, 0, 0, 4, 0, 0), wayOf(far, far, -far, -far, far, -far, -far, far), wayOf(0, 0, 0, 0, 0, 0, 0, 0), wayOf(0, 0, 1, 1, 2, 2, 1, 1)}
	for _, from := range fine {
		for at := range from {
			for _, wrong := range beyondPts() {
				l := slices.Clone(from)
				l[at] = wrong
				wantZero(t, impl.InTriangle, l[0], l[1], l[2], l[3])
			}
		}
	}
	for _, wrong := range beyondPts() {
		wantZero(t, impl.InTriangle, wrong, wrong, wrong, wrong)
	}
}

func TestPromise19InTriangleOnOneLine(t *testing.T) {
	for _, l := range [][]impl.Pt{
		wayOf(0, 0, 0, 0, 0, 0), wayOf(far, -far, far, -far, far, -far), wayOf(0, 0, 0, 0, 4, 4), wayOf(0, 0, 4, 4, 0, 0), wayOf(4, 4, 0, 0, 0, 0), wayOf(0, 0, 4, 4, 4, 4),
		wayOf(0, 0, 2, 0, 4, 0), wayOf(0, 0, 0, 4, 0, 2), wayOf(0, 0, 6, 3, 2, 1), wayOf(5, 1, -1, 4, 1, 3), wayOf(-far, -far, far, far, 0, 0), wayOf(-far, far, 0, 0, far, -far), wayOf(0, 0, 999, 666, -3, -2),
	} {
		for _, p := range append(wayOf(0, 0, 1, 0, 0, 1, 9, 9, far, far, -far, far), l...) {
			wantZero(t, impl.InTriangle, l[0], l[1], l[2], p)
			wantZero(t, impl.InTriangle, l[2], l[1], l[0], p)
		}
	}
	// One off the line is taken.
	watchTold(t, impl.InTriangle, pt(-far, -far), pt(far, far), pt(0, 1), pt(0, 0))
	watchTold(t, impl.InTriangle, pt(-far, -far), pt(far, far), pt(1, 0), pt(0, 0))
}

func TestPromise19TrianglesNotSimple(t *testing.T) {
	for _, c := range notSimpleWays() {
		for i := range c.way {
			for _, l := range [][]impl.Pt{begunAt(c.way, i), begunAt(backwards(c.way), i)} {
				for _, call := range append(callsOfSimple(nil), callsOfSimple(trisOf(0, 1, 2, 0, 2, 3))...) {
					wantZero(t, call.f, call.with(l)...)
				}
				watchTold(t, impl.Sees, l, i, tri(0, 1, 2))
			}
		}
	}
	for _, l := range [][]impl.Pt{star(), inARow(square(4), square(4)), make([]impl.Pt, 3), make([]impl.Pt, impl.MaxCorners)} {
		for _, call := range callsOfSimple(make([]impl.Tri, len(l)-2)) {
			wantZero(t, call.f, call.with(l)...)
		}
	}
}

func TestPromise19TrianglesOfWrongWays(t *testing.T) {
	for _, wrong := range wrongWays() {
		for _, tris := range [][]impl.Tri{nil, {}, trisOf(0, 1, 2), make([]impl.Tri, max(0, len(wrong)-2))} {
			for _, c := range callsOfTriangles(tris) {
				wantZero(t, c.f, c.with(wrong)...)
			}
		}
	}
	eachWayWithOneBeyond(func(l []impl.Pt, at int) {
		for _, c := range callsOfTriangles(make([]impl.Tri, len(l)-2)) {
			wantZero(t, c.f, c.with(l)...)
		}
		wantZero(t, impl.Sees, l, at, tri(at, at, at))
	})
}

// As many corners as a way may have, and one more and one fewer.
func TestPromise19TrianglesLimit(t *testing.T) {
	for n := range 3 * impl.MaxCorners {
		l := longWay(n)
		for _, c := range callsOfTriangles(trisOf(0, 1, 2)) {
			if n < 3 || n > impl.MaxCorners {
				wantZero(t, c.f, c.with(l)...)
				continue
			}
			watchTold(t, c.f, c.with(l)...)
		}
	}
}

// A number that is no corner's, as a guard and at each place of a triangle, though the others would tell the answer already.
func TestPromise19SeesOfWrongNumbers(t *testing.T) {
	for _, l := range [][]impl.Pt{wayOf(0, 0, 3, 0, 0, 3), square(4), star(), comb(9), make([]impl.Pt, 5)} {
		for _, wrong := range wrongNumbers(len(l)) {
			for guard := range l {
				for at := range 3 {
					wantZero(t, impl.Sees, l, guard, withNumber(tri(guard, guard, guard), at, wrong))
					wantZero(t, impl.Sees, l, guard, withNumber(tri(0, 1, 2), at, wrong))
					wantZero(t, impl.Sees, l, wrong, withNumber(tri(0, 1, 2), at, wrong))
				}
			}
			wantZero(t, impl.Sees, l, wrong, tri(0, 1, 2))
			wantZero(t, impl.Sees, l, wrong, tri(wrong, wrong, wrong))
		}
		for _, last := range []int{0, len(l) - 1} {
			watchTold(t, impl.Sees, l, last, tri(last, 0, 1))
		}
	}
}

// Ways that are pieces of a longer list, and triangles likewise: no call reads or writes what lies behind, and what is told has memory of its own.
func TestPromise19TrianglesInOneMemory(t *testing.T) {
	all := append(longWay(impl.MaxCorners), wayOf(77, 78, far+5, 0)...)
	kept := slices.Clone(all)
	for n := 3; n <= impl.MaxCorners; n++ {
		for from := range n - 2 {
			l, same := all[from:n], slices.Clone(kept[from:n])
			told := append(plainTris(same), trisOf(9, 9, 9, -1, -1, -1)...)
			tris := told[:len(told)-2]
			for _, f := range callsThatList() {
				wantDirectly(t, f, watchTold(t, f, same), l)
			}
			wantDirectly(t, impl.IsTriangulation, watchTold(t, impl.IsTriangulation, same, slices.Clone(tris)), l, tris)
			wantDirectly(t, impl.Sees, watchTold(t, impl.Sees, same, 1, tris[0]), l, 1, tris[0])
			if !slices.Equal(told[len(tris):], trisOf(9, 9, 9, -1, -1, -1)) {
				t.Fatalf("written into: %v", told)
			}
		}
	}
	if !slices.Equal(all, kept) {
		t.Fatalf("written into: %v", all)
	}
}

// What is told is new at each call: what is written into it is not seen in the argument, nor in what is told again.
func TestPromise19TrianglesToldAnew(t *testing.T) {
	for _, c := range triCases() {
		l := slices.Clone(c.l)
		for _, tell := range []func([]impl.Pt) ([]int, bool){impl.EarsOf, impl.ColourThree, impl.GuardsOf} {
			first, ok := tell(l)
			kept := slices.Clone(first)
			for i := range first {
				first[i] = -7
			}
			_ = append(first, -8)
			again, okAgain := tell(l)
			if !ok || !okAgain || !slices.Equal(again, kept) || !slices.Equal(l, c.l) {
				t.Errorf("told %v %v, then %v %v of %v", kept, ok, again, okAgain, c.l)
			}
		}
		first, ok := impl.Triangulate(l)
		for i := range first {
			first[i] = tri(-7, -7, -7)
		}
		_ = append(first, tri(-8, -8, -8))
		again, okAgain := impl.Triangulate(l)
		if !ok || !okAgain || !slices.Equal(again, c.tris) || !slices.Equal(l, c.l) {
			t.Errorf("told %v, then %v %v of %v", c.tris, again, okAgain, c.l)
		}
	}
}

// Behind its length an answer has no memory that a later append would show.
func TestPromise19NothingBehindTriangles(t *testing.T) {
	for _, l := range simpleForTris(fixed(132)) {
		for _, f := range callsThatList() {
			list := watchTold(t, f, l)[0]
			for i := list.Len(); i < list.Cap(); i++ {
				if behind := list.Slice(0, list.Cap()).Index(i); !behind.IsZero() {
					t.Errorf("%s %v: behind %v lies %v", nameOf(f), l, list, behind)
				}
			}
		}
	}
	for _, wrong := range wrongWays() {
		for _, f := range callsThatList() {
			if x := watch(t, f, wrong); !x[0].IsNil() || x[1].Bool() {
				t.Errorf("%s %v: %v", nameOf(f), wrong, x)
			}
		}
	}
}
