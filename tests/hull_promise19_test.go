package tests

import (
	"slices"
	"testing"

	"loop.example/g00409/impl"
)

// callsOfCloud are all functions of the chapter that take a cloud of one point at least.
func callsOfCloud(h []impl.Pt) []wayCall {
	return []wayCall{{impl.HullOf, nil}, {impl.IsHull, []any{h}}, {impl.WidestIn, nil}}
}

// callsOfConvex take a way.
func callsOfConvex(p impl.Pt) []wayCall {
	return []wayCall{{impl.IsConvex, nil}, {impl.HasPt, []any{p}}}
}

// wrongClouds are none, each for one reason: too many points, or one beyond the grid; no point at all is a case of its own.
func wrongClouds() [][]impl.Pt {
	wrong := [][]impl.Pt{longWay(impl.MaxCloud + 1), longWay(40), make([]impl.Pt, impl.MaxCloud+1), make([]impl.Pt, 2*impl.MaxCloud), make([]impl.Pt, 3000), append(sixteen(1), pt(0, 0))}
	for _, p := range beyondPts() {
		wrong = append(wrong, []impl.Pt{p}, []impl.Pt{p, p}, eachOften([]impl.Pt{p}))
		for _, n := range []int{2, 3, impl.MaxCorners, impl.MaxCloud} {
			for _, at := range []int{0, 1, n - 1} {
				l := longWay(n)
				l[at] = p
				wrong = append(wrong, l)
			}
		}
	}
	return wrong
}

func TestPromise19GoodClouds(t *testing.T) {
	r := fixed(115)
	for _, l := range cloudsOfAll(r) {
		for _, h := range [][]impl.Pt{nil, plainHull(l), l, backwards(l), somePts(r, 40, far)} {
			for _, c := range callsOfCloud(h) {
				watchTold(t, c.f, c.with(l)...)
			}
		}
		watchTold(t, impl.SortPts, l)
	}
	watchTold(t, impl.SortPts, []impl.Pt(nil))
	watchTold(t, impl.SortPts, []impl.Pt{})
	for range 200 {
		watchTold(t, impl.LessPt, somePt(r, far), somePt(r, far))
	}
}

func TestPromise19GoodConvexWays(t *testing.T) {
	r := fixed(116)
	for _, l := range convexWays() {
		for _, p := range append(somePts(r, 3, far), l[0], l[len(l)-1], pt(0, 0)) {
			for i := range l {
				watchTold(t, impl.HasPt, begunAt(l, i), p)
			}
		}
		watchTold(t, impl.IsConvex, l)
		watchTold(t, impl.IsConvex, backwards(l))
	}
	for _, l := range windingWays() {
		watchTold(t, impl.IsConvex, l)
		watch(t, impl.HasPt, l, l[0])
	}
}

func TestPromise19WrongLessPt(t *testing.T) {
	for _, wrong := range beyondPts() {
		for _, p := range append(wayOf(0, 0, far, far, -far, -far, far, -far), wrong) {
			wantZero(t, impl.LessPt, wrong, p)
			wantZero(t, impl.LessPt, p, wrong)
		}
	}
}

func TestPromise19WrongClouds(t *testing.T) {
	for _, wrong := range wrongClouds() {
		for _, h := range [][]impl.Pt{nil, wayOf(0, 0), wrong, longWay(impl.MaxCloud)} {
			for _, c := range append(callsOfCloud(h), wayCall{impl.SortPts, nil}) {
				wantZero(t, c.f, c.with(wrong)...)
			}
		}
	}
	for _, none := range [][]impl.Pt{nil, {}} {
		for _, h := range [][]impl.Pt{nil, {}, wayOf(0, 0), square(4)} {
			for _, c := range callsOfCloud(h) {
				wantZero(t, c.f, c.with(none)...)
			}
		}
	}
}

// A point beyond the grid at each place of a cloud: all of them are looked at, though the others would tell the answer.
func TestPromise19WrongPtAnywhereInACloud(t *testing.T) {
	for n := 1; n <= impl.MaxCloud; n++ {
		for at := range n {
			for _, from := range [][]impl.Pt{longWay(n), make([]impl.Pt, n)} {
				for _, p := range wayOf(far+1, 0, -far-1, 0, 0, far+1, 0, -far-1) {
					l := slices.Clone(from)
					l[at] = p
					for _, c := range append(callsOfCloud(wayOf(0, 0)), wayCall{impl.SortPts, nil}, wayCall{impl.IsHull, []any{l}}) {
						wantZero(t, c.f, c.with(l)...)
					}
				}
			}
		}
	}
}

// What is held against a hull are points: one beyond the grid is refused, wherever it stands, also where the first one tells already that it is no hull.
func TestPromise19WrongPtAnywhereInAHull(t *testing.T) {
	for _, l := range [][]impl.Pt{wayOf(0, 0), square(4), sixteen(1), longWay(impl.MaxCloud)} {
		for _, from := range [][]impl.Pt{l, backwards(l), append(slices.Clone(l), l[0]), somePts(fixed(117), 40, 9)} {
			for at := range from {
				for _, p := range beyondPts() {
					h := slices.Clone(from)
					h[at] = p
					wantZero(t, impl.IsHull, l, h)
				}
			}
		}
	}
}

func TestPromise19WrongConvexWays(t *testing.T) {
	for _, wrong := range wrongWays() {
		for _, p := range append(wayOf(0, 0, 1, 1, far, far), wrong[:min(1, len(wrong))]...) {
			for _, c := range callsOfConvex(p) {
				wantZero(t, c.f, c.with(wrong)...)
			}
		}
	}
	for n := impl.MaxCorners + 1; n <= impl.MaxCloud; n++ {
		// They are clouds, and hulls of themselves, but no ways round.
		wantHull(t, longWay(n), longWay(n))
		wantZero(t, impl.IsConvex, longWay(n))
		wantZero(t, impl.HasPt, longWay(n), pt(0, 0))
	}
	eachWayWithOneBeyond(func(l []impl.Pt, at int) {
		for _, c := range callsOfConvex(l[(at+1)%len(l)]) {
			wantZero(t, c.f, c.with(l)...)
		}
	})
}

func TestPromise19PtBeyondConvexWays(t *testing.T) {
	for _, l := range convexWays() {
		for _, wrong := range beyondPts() {
			wantZero(t, impl.HasPt, l, wrong)
		}
		for _, p := range wayOf(far, far, -far, -far, far, -far, -far, far) {
			watchTold(t, impl.HasPt, l, p)
		}
	}
}

// A cloud that is the beginning of a longer list, and a hull that is a piece of the same memory: no call reads or writes what lies behind, and what is told has memory of its own.
func TestPromise19CloudsInOneMemory(t *testing.T) {
	all := append(sixteen(5), wayOf(77, 78, far+5, 0)...)
	kept := slices.Clone(all)
	for n := 1; n <= impl.MaxCloud; n++ {
		for from := range n {
			l, same := all[from:n], slices.Clone(kept[from:n])
			for _, f := range []any{impl.HullOf, impl.SortPts, impl.WidestIn, impl.IsConvex} {
				wantDirectly(t, f, watch(t, f, same), l)
			}
			wantDirectly(t, impl.IsHull, watch(t, impl.IsHull, same, same), l, l)
			wantDirectly(t, impl.IsHull, watch(t, impl.IsHull, same, slices.Clone(kept[:n])), l, all[:n])
			wantDirectly(t, impl.HasPt, watch(t, impl.HasPt, same, pt(1, 1)), l, pt(1, 1))
		}
	}
	if !slices.Equal(all, kept) {
		t.Fatalf("written into: %v", all)
	}
}

// What is told is new at each call: what is written into it is not seen in the argument, nor in what is told again.
func TestPromise19HullsToldAnew(t *testing.T) {
	for _, c := range hullCases() {
		for _, tell := range []func([]impl.Pt) ([]impl.Pt, bool){impl.HullOf, impl.SortPts} {
			for _, l := range [][]impl.Pt{slices.Clone(c.l), slices.Clone(c.h), plainRising(c.l)} {
				before := slices.Clone(l)
				first, ok := tell(l)
				kept := slices.Clone(first)
				for i := range first {
					first[i] = pt(-7, -7)
				}
				_ = append(first, pt(-8, -8))
				again, okAgain := tell(l)
				if !ok || !okAgain || !slices.Equal(again, kept) || !slices.Equal(l, before) {
					t.Errorf("told %v %v, then %v %v of %v", kept, ok, again, okAgain, before)
				}
			}
		}
	}
}

// Behind its length an answer has no memory that a later append would show: none of the points that are no corners is handed out.
func TestPromise19NothingBehindHulls(t *testing.T) {
	for _, l := range cloudsOfAll(fixed(118)) {
		hull, _ := impl.HullOf(l)
		sorted, _ := impl.SortPts(l)
		for _, told := range [][]impl.Pt{hull, sorted} {
			for _, p := range told[len(told):cap(told)] {
				if p != (impl.Pt{}) {
					t.Errorf("behind %v lies %v", told, p)
				}
			}
		}
	}
	for _, wrong := range wrongClouds() {
		hull, ok := impl.HullOf(wrong)
		sorted, okSorted := impl.SortPts(wrong)
		if hull != nil || sorted != nil || ok || okSorted {
			t.Error(wrong, hull, ok, sorted, okSorted)
		}
	}
}
