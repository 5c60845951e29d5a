package tests

import (
	"slices"
	"testing"

	"loop.example/g00409/impl"
)

// A wayCall is a function that takes a way first, and what else it is given.
type wayCall struct {
	f    any
	rest []any
}

func (c wayCall) with(l []impl.Pt) []any {
	return append([]any{l}, c.rest...)
}

func callsOfWayAndPt(p impl.Pt) []wayCall {
	return []wayCall{{impl.OnWay, []any{p}}, {impl.WindingAt, []any{p}}, {impl.CrossingsAt, []any{p}}, {impl.Inside, []any{p, true}}, {impl.Inside, []any{p, false}}}
}

// callsOfWinding are all functions of the chapter.
func callsOfWinding(p impl.Pt, a, b int) []wayCall {
	return append(callsOfWayAndPt(p), wayCall{impl.WindingSum, nil}, wayCall{impl.BoxOf, nil}, wayCall{impl.SplitWay, []any{a, b}})
}

func TestPromise19GoodRounds(t *testing.T) {
	r := fixed(103)
	ways := windingWays()
	for n := 3; n <= impl.MaxCorners; n++ {
		ways = append(ways, somePts(r, n, far), somePts(r, n, 2))
	}
	for _, l := range ways {
		for _, p := range append(somePts(r, 3, far), l[0], l[len(l)-1], pt(1, 1)) {
			for _, c := range callsOfWinding(p, r.IntN(len(l)), r.IntN(len(l))) {
				watch(t, c.f, c.with(l)...)
			}
			watchTold(t, impl.OnWay, l, p)
		}
		watchTold(t, impl.BoxOf, l)
		for at := 2; at < len(l)-1; at++ {
			watchTold(t, impl.SplitWay, l, 0, at)
			watchTold(t, impl.SplitWay, l, at-1, len(l)-1)
		}
	}
}

func TestPromise19WrongRounds(t *testing.T) {
	for _, wrong := range wrongWays() {
		for _, p := range append(wayOf(0, 0, 1, 1, -5, 3, far, far), wrong[:min(1, len(wrong))]...) {
			for _, c := range callsOfWinding(p, 0, 2) {
				wantZero(t, c.f, c.with(wrong)...)
			}
		}
	}
}

// Too few and too many points, where those that are there would do.
func TestPromise19TooFewAndTooManyRound(t *testing.T) {
	for _, n := range []int{0, 1, 2, impl.MaxCorners + 1, impl.MaxCorners + 2, 4 * impl.MaxCorners} {
		l := inARow(square(4), square(4), square(4), square(4), square(4), square(4), square(4), square(4), square(4), square(4), square(4), square(4))[:n]
		for _, p := range wayOf(1, 1, 0, 0, -1, 2) {
			for _, c := range callsOfWinding(p, 0, 2) {
				wantZero(t, c.f, c.with(l)...)
			}
		}
	}
	for _, n := range []int{3, impl.MaxCorners} {
		for _, c := range append(callsOfWayAndPt(pt(-1, 2)), wayCall{impl.WindingSum, nil}, wayCall{impl.BoxOf, nil}) {
			watchTold(t, c.f, c.with(inARow(square(4), square(4), square(4))[:n])...)
		}
	}
}

// A point beyond the grid is refused, also where it is plainly without, and where it lies on a segment's line.
func TestPromise19PtBeyondRounds(t *testing.T) {
	ways := append(windingWays(), wayOf(-far, -far, far, -far, far, far, -far, far), wayOf(far, far, far, -far, 0, 0))
	for _, wrong := range beyondPts() {
		for _, l := range ways {
			for _, c := range callsOfWayAndPt(wrong) {
				wantZero(t, c.f, c.with(l)...)
			}
		}
	}
	for _, p := range wayOf(far, far, -far, -far, far, -far, -far, far) {
		for _, c := range callsOfWayAndPt(p) {
			watchTold(t, c.f, c.with(square(4))...)
		}
	}
}

// A point beyond the grid at each place of a way: all of them are looked at, though the point to be told of would be on another segment.
func TestPromise19WrongPtAnywhereRound(t *testing.T) {
	eachWayWithOneBeyond(func(l []impl.Pt, at int) {
		for _, p := range []impl.Pt{l[(at+1)%len(l)], l[(at+2)%len(l)], pt(-1, 1)} {
			for _, c := range callsOfWinding(p, 0, 2) {
				wantZero(t, c.f, c.with(l)...)
			}
		}
	})
}

// A way that is the beginning of a longer list, in the same memory: no call reads or writes what lies behind, and what is told has memory of its own.
func TestPromise19RoundsInOneMemory(t *testing.T) {
	all := append(comb(9), wayOf(77, 78, far+5, 0)...)
	kept := slices.Clone(all)
	for n := 3; n <= impl.MaxCorners; n++ {
		for _, p := range append(wayOf(5, 1, 7, 5, -1, 2), all[n-1], all[n]) {
			for _, c := range callsOfWinding(p, 1, n-1) {
				wantDirectly(t, c.f, watch(t, c.f, c.with(slices.Clone(kept[:n]))...), c.with(all[:n])...)
			}
		}
	}
	if !slices.Equal(all, kept) {
		t.Fatalf("written into: %v", all)
	}
}

// Both ways of a split one are memory of their own: what is written into one, or put behind it, is seen neither in the other, nor in the argument, nor in what is told again.
func TestPromise19SplitToldAnew(t *testing.T) {
	l := comb(9)
	for a := range l {
		for b := range l {
			if !isToldSplit(len(l), a, b) {
				continue
			}
			one, other, _ := impl.SplitWay(l, a, b)
			for i := range one {
				one[i] = pt(-7, -7)
			}
			_ = append(one, pt(-8, -8))
			wantPts(t, "SplitWay, the other way", []int{a, b}, other, true, plainSplit(l, b, a))
			for i := range other {
				other[i] = pt(-9, -9)
			}
			_ = append(other, pt(-8, -8))
			wantSplit(t, l, a, b, plainSplit(comb(9), a, b), plainSplit(comb(9), b, a))
			wantPts(t, "the argument", []int{a, b}, l, true, comb(9))
		}
	}
}

// Behind its length no part has memory that a later append would show.
func TestPromise19NothingBehindSplit(t *testing.T) {
	for n := 4; n <= impl.MaxCorners; n++ {
		for b := 2; b < n-1; b++ {
			one, other, _ := impl.SplitWay(begunAt(comb(9), 3)[:n], 0, b)
			for _, part := range [][]impl.Pt{one, other} {
				for _, p := range part[len(part):cap(part)] {
					if p != (impl.Pt{}) {
						t.Errorf("behind %v lies %v", part, p)
					}
				}
			}
		}
	}
	if one, other, ok := impl.SplitWay(square(4), 0, 3); one != nil || other != nil || ok {
		t.Error(one, other, ok)
	}
}
