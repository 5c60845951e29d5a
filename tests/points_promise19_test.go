package tests

import (
	"slices"
	"testing"

	"loop.example/g00409/impl"
)

func callsOfWay() []any {
	return []any{impl.AreaTwice, impl.BorderPoints, impl.IsSimple, impl.TurnAll}
}

func TestPromise19GoodPts(t *testing.T) {
	r := fixed(92)
	for range 200 {
		a, b, c, d := somePt(r, far), somePt(r, far), somePt(r, far), somePt(r, far)
		watchTold(t, impl.Orient, a, b, c)
		watchTold(t, impl.OnSegment, a, b, c)
		watchTold(t, impl.SegmentsMeet, a, b, c, d)
		watchTold(t, impl.GcdInt, 10*a.X, 10*b.Y)
	}
	for _, p := range append(beyondPts(), somePts(r, 20, far)...) {
		watch(t, impl.GoodPt, p)
	}
}

// A point beyond the grid at each place, though the others would tell the answer already.
func TestPromise19WrongPts(t *testing.T) {
	fine := [][]impl.Pt{wayOf(0, 0, 4, 4, 0, 4, 4, 0), wayOf(0, 0, 0, 0, 0, 0, 0, 0), wayOf(far, far, -far, -far, far, -far, -far, far)}
	for _, wrong := range beyondPts() {
		for _, from := range fine {
			for at := range from {
				l := slices.Clone(from)
				l[at] = wrong
				wantZero(t, impl.SegmentsMeet, l[0], l[1], l[2], l[3])
				if at < 3 {
					wantZero(t, impl.Orient, l[0], l[1], l[2])
					wantZero(t, impl.OnSegment, l[0], l[1], l[2])
				}
			}
		}
		wantZero(t, impl.GoodPt, wrong)
		wantZero(t, impl.Orient, wrong, wrong, wrong)
		wantZero(t, impl.OnSegment, wrong, wrong, wrong)
		wantZero(t, impl.SegmentsMeet, wrong, wrong, wrong, wrong)
	}
}

func TestPromise19GoodWays(t *testing.T) {
	r := fixed(93)
	ways := simpleWays()
	for _, c := range notSimpleWays() {
		ways = append(ways, c.way)
	}
	for n := 3; n <= impl.MaxCorners; n++ {
		ways = append(ways, longWay(n), somePts(r, n, far), somePts(r, n, 2))
	}
	for _, l := range ways {
		for _, f := range callsOfWay() {
			watchTold(t, f, l)
		}
		watch(t, impl.InnerPoints, l)
		watchTold(t, impl.MovePts, l, pt(0, 0))
		for _, by := range somePts(r, 3, far) {
			watch(t, impl.MovePts, l, by)
		}
	}
}

func TestPromise19WrongWays(t *testing.T) {
	for _, wrong := range wrongWays() {
		for _, f := range callsOfWay() {
			wantZero(t, f, wrong)
		}
		wantZero(t, impl.InnerPoints, wrong)
		for _, by := range []impl.Pt{pt(0, 0), pt(-1, 1), pt(-far, -far), pt(far+1, 0)} {
			wantZero(t, impl.MovePts, wrong, by)
		}
	}
}

// A point beyond the grid at each place of a way: all of them are looked at, though two points alike would tell that it is not simple.
func TestPromise19WrongPtAnywhere(t *testing.T) {
	eachWayWithOneBeyond(func(l []impl.Pt, at int) {
		for _, f := range append(callsOfWay(), impl.InnerPoints) {
			wantZero(t, f, l)
		}
		wantZero(t, impl.MovePts, l, pt(0, 0))
		wantZero(t, impl.MovePts, l, pt(-signOfInt(l[at].X), -signOfInt(l[at].Y)))
	})
}

func TestPromise19InnerPointsNotSimple(t *testing.T) {
	for _, c := range notSimpleWays() {
		wantZero(t, impl.InnerPoints, c.way)
	}
	for _, l := range simpleWays() {
		watchTold(t, impl.InnerPoints, l)
	}
}

// A way that is the beginning of a longer list, in the same memory: no call reads or writes what lies behind, and what is told has memory of its own.
func TestPromise19WaysInOneMemory(t *testing.T) {
	all := append(comb(9), wayOf(77, 78, far+5, 0)...)
	kept := slices.Clone(all)
	for n := 3; n <= impl.MaxCorners; n++ {
		way := all[:n]
		for _, f := range append(callsOfWay(), impl.InnerPoints) {
			wantDirectly(t, f, watch(t, f, slices.Clone(kept[:n])), way)
		}
		wantDirectly(t, impl.MovePts, watch(t, impl.MovePts, slices.Clone(kept[:n]), pt(3, -4)), way, pt(3, -4))
	}
	if !slices.Equal(all, kept) {
		t.Fatalf("written into: %v", all)
	}
}

// What is told is new at each call: what is written into it is not seen in the argument, nor in what is told again.
func TestPromise19PtsToldAnew(t *testing.T) {
	l := comb(9)
	for _, tell := range []func() ([]impl.Pt, bool){
		func() ([]impl.Pt, bool) { return impl.TurnAll(l) },
		func() ([]impl.Pt, bool) { return impl.MovePts(l, pt(0, 0)) },
		func() ([]impl.Pt, bool) { return impl.MovePts(l, pt(5, 6)) },
	} {
		first, ok := tell()
		kept := slices.Clone(first)
		for i := range first {
			first[i] = pt(-7, -7)
		}
		_ = append(first, pt(-8, -8))
		again, okAgain := tell()
		if !ok || !okAgain || !slices.Equal(again, kept) || !slices.Equal(l, comb(9)) {
			t.Errorf("told %v %v, then %v %v of %v", kept, ok, again, okAgain, l)
		}
	}
}

// Behind its length an answer has no memory that a later append would show: none is handed out.
func TestPromise19NothingBehindPts(t *testing.T) {
	for n := 3; n <= impl.MaxCorners; n++ {
		back, _ := impl.TurnAll(longWay(n))
		moved, _ := impl.MovePts(longWay(n), pt(1, 1))
		for _, l := range [][]impl.Pt{back, moved} {
			for _, p := range l[len(l):cap(l)] {
				if p != (impl.Pt{}) {
					t.Errorf("behind %v lies %v", l, p)
				}
			}
		}
	}
	l, ok := impl.MovePts(wayOf(far, 0, 0, 0, 0, 1), pt(1, 0))
	if l != nil || ok {
		t.Error(l, ok)
	}
}
