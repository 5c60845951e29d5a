package tests

import (
	"slices"
	"testing"

	"loop.example/g00409/impl"
)

// callsOfCurve are all functions of the chapter that take a curve alone.
func callsOfCurve() []any {
	return []any{impl.GoodCurve, impl.RaiseCurve, impl.ReverseCurve, impl.PowersOf, impl.SweepOf}
}

// callsOfCurveAndPlace are those that take a place, too.
func callsOfCurveAndPlace() []any {
	return []any{impl.CurveAt, impl.SplitCurve}
}

// wantNoCurve wants the zero answer of all functions that take a curve.
func wantNoCurve(t *testing.T, wrong []impl.RPt) {
	t.Helper()
	for _, f := range callsOfCurve() {
		wantZero(t, f, wrong)
	}
	for _, f := range callsOfCurveAndPlace() {
		for _, at := range []string{"0", "1", "1/2"} {
			wantZero(t, f, wrong, ratFrom(at))
		}
	}
}

func TestPromise19GoodCurves(t *testing.T) {
	r := fixed(160)
	for _, c := range curvesOfAll(r) {
		for _, f := range []any{impl.ReverseCurve, impl.PowersOf, impl.SweepOf, impl.GoodCurve} {
			watchTold(t, f, c)
		}
		watch(t, impl.RaiseCurve, c)
		for _, at := range append(edgeDraws(), someRat(r, drawLimbs)) {
			watchTold(t, impl.CurveAt, c, at)
			watch(t, impl.SplitCurve, c, at)
			watchTold(t, impl.MixPt, c[0], c[len(c)-1], at)
		}
		watchTold(t, impl.SplitCurve, c, ratFrom("0"))
		watchTold(t, impl.SplitCurve, c, ratFrom("1"))
	}
	for n := 1; n <= impl.MaxDraws; n++ {
		for _, wide := range []int{0, 1, far} {
			watchTold(t, impl.CurveOf, somePts(r, n, wide))
		}
		if c := smallCurve(r, n, 9, 5); n < impl.MaxDraws {
			watchTold(t, impl.RaiseCurve, c)
			watchTold(t, impl.SplitCurve, c, ratFrom("-2/3"))
		}
	}
}

// Too few and too many points, where those that are there would do.
func TestPromise19TooFewAndTooManyDraws(t *testing.T) {
	for _, n := range []int{0, impl.MaxDraws + 1, impl.MaxDraws + 2, 40} {
		for _, p := range []string{"0,0", "1/2,-3"} {
			wantNoCurve(t, slices.Repeat([]impl.RPt{rptFrom(p)}, n))
		}
		wantZero(t, impl.CurveOf, make([]impl.Pt, n))
		wantZero(t, impl.CurveOf, longWay(n))
	}
	wantNoCurve(t, nil)
	wantNoCurve(t, make([]impl.RPt, 1))
	wantNoCurve(t, make([]impl.RPt, 3000))
	wantZero(t, impl.CurveOf, []impl.Pt(nil))
	wantZero(t, impl.CurveOf, make([]impl.Pt, 3000))
}

// A fraction that is not good, or too long, in X and in Y of each point, though the others would tell the answer already.
func TestPromise19WrongDrawAnywhere(t *testing.T) {
	fine := rptFrom("1/2,-3")
	for _, wrong := range wrongDraws() {
		for n := 1; n <= impl.MaxDraws; n++ {
			for at := range n {
				for _, p := range []impl.RPt{rpt(wrong, fine.Y), rpt(fine.X, wrong)} {
					c := slices.Repeat([]impl.RPt{fine}, n)
					c[at] = p
					wantNoCurve(t, c)
				}
			}
		}
		wantNoCurve(t, slices.Repeat([]impl.RPt{rpt(wrong, wrong)}, 3))
	}
}

func TestPromise19WrongPlaceOnACurve(t *testing.T) {
	for _, wrong := range wrongDraws() {
		for _, c := range append(edgeCurves(), nil, make([]impl.RPt, 2), slices.Repeat(curveFrom("1,1"), impl.MaxDraws+1)) {
			for _, f := range callsOfCurveAndPlace() {
				wantZero(t, f, c, wrong)
			}
		}
	}
}

func TestPromise19WrongMixPt(t *testing.T) {
	fine, other, half := rptFrom("1/2,-3"), rptFrom("0,5/7"), ratFrom("1/2")
	for _, wrong := range wrongDraws() {
		for _, at := range []impl.Rat{half, ratFrom("0"), ratFrom("1"), wrong} {
			for _, p := range []impl.RPt{rpt(wrong, fine.Y), rpt(fine.X, wrong), rpt(wrong, wrong)} {
				wantZero(t, impl.MixPt, p, other, at)
				wantZero(t, impl.MixPt, other, p, at)
				wantZero(t, impl.MixPt, p, p, at)
			}
		}
		wantZero(t, impl.MixPt, fine, other, wrong)
		wantZero(t, impl.MixPt, fine, fine, wrong)
	}
	wantZero(t, impl.MixPt, impl.RPt{}, impl.RPt{}, impl.Rat{})
	wantZero(t, impl.MixPt, impl.RPt{}, fine, half)
	wantZero(t, impl.MixPt, fine, impl.RPt{}, half)
}

func TestPromise19CurveOfPtsBeyond(t *testing.T) {
	for n := 1; n <= impl.MaxDraws; n++ {
		for at := range n {
			for _, wrong := range beyondPts() {
				l := longWay(n)
				l[at] = wrong
				wantZero(t, impl.CurveOf, l)
			}
		}
	}
}

// Where one of both parts is no curve, the other one is not told either.
func TestPromise19OneOfTwoPartsIsTooLong(t *testing.T) {
	for _, row := range splitLimits() {
		for _, c := range [][]impl.RPt{row.curve, changedXY(row.curve)} {
			if row.told {
				watchTold(t, impl.SplitCurve, c, ratFrom(row.at))
				continue
			}
			wantZero(t, impl.SplitCurve, c, ratFrom(row.at))
		}
	}
	for _, c := range [][]impl.RPt{curveFrom("0,0 1/2147483648,0"), curveFrom("0,0 0,1/2147483648"), curveFrom("0,0 1,0 2,0 3,0 4,0"), longestCurve(3)} {
		wantZero(t, impl.RaiseCurve, c)
	}
}

// sharedCurves have one fraction in many places, one number as Num and Den, and one point as all of them.
func sharedCurves() [][]impl.RPt {
	one := positive(1)
	same, half := over(one, one), ratFrom("-5/3")
	all := [][]impl.RPt{}
	for n := 1; n <= impl.MaxDraws; n++ {
		all = append(all, slices.Repeat([]impl.RPt{rpt(same, same)}, n), slices.Repeat([]impl.RPt{rpt(half, half)}, n), slices.Repeat([]impl.RPt{rpt(half, same)}, n))
	}
	return append(all, edgeCurves()...)
}

// One fraction as X, as Y and as the place: none may be worked on in its place, and what is told has memory of its own.
func TestPromise19OneDrawOften(t *testing.T) {
	for _, c := range sharedCurves() {
		kept := cloneCurve(c)
		for _, f := range callsOfCurve() {
			wantDirectly(t, f, watch(t, f, cloneCurve(c)), c)
		}
		for _, at := range []impl.Rat{c[0].X, c[0].Y, c[len(c)-1].X} {
			for _, f := range callsOfCurveAndPlace() {
				wantDirectly(t, f, watch(t, f, cloneCurve(c), cloneRat(at)), c, at)
			}
			for _, p := range c {
				wantDirectly(t, impl.MixPt, watch(t, impl.MixPt, cloneCurve([]impl.RPt{p})[0], cloneCurve(c)[0], cloneRat(at)), p, c[0], at)
				wantDirectly(t, impl.MixPt, watch(t, impl.MixPt, cloneCurve([]impl.RPt{p})[0], cloneCurve([]impl.RPt{p})[0], cloneRat(at)), p, p, at)
			}
		}
		if !sameCurve(c, kept) {
			t.Fatalf("%v was written into: %v", kept, c)
		}
	}
}

// Curves that are pieces of a longer list: no call reads or writes what lies behind, or ahead.
func TestPromise19CurvesInOneMemory(t *testing.T) {
	all := append(curveFrom("0,0 2,4 -4/3,0 1,1/2 -7,3 5,5"), impl.RPt{}, rpt(whole(most()), whole(positive(0))))
	kept := cloneCurve(all)
	for from := range 6 {
		for to := from + 1; to <= min(6, from+impl.MaxDraws); to++ {
			c, same := all[from:to], cloneCurve(kept[from:to])
			for _, f := range callsOfCurve() {
				wantDirectly(t, f, watch(t, f, same), c)
			}
			for _, f := range callsOfCurveAndPlace() {
				for _, at := range []impl.Rat{ratFrom("1/2"), ratFrom("0"), ratFrom("1"), ratFrom("-3")} {
					wantDirectly(t, f, watch(t, f, same, at), c, at)
				}
			}
		}
	}
	if !sameCurve(all, kept) {
		t.Fatalf("written into: %v", all)
	}
	l := append(longWay(impl.MaxDraws), wayOf(77, 78, far+5, 0)...)
	before := slices.Clone(l)
	for n := 1; n <= impl.MaxDraws; n++ {
		wantDirectly(t, impl.CurveOf, watchTold(t, impl.CurveOf, slices.Clone(l[:n])), l[:n])
	}
	if !slices.Equal(l, before) {
		t.Fatalf("written into: %v", l)
	}
}

// spoil writes into all that is told, limbs among it.
func spoil(lists ...[]impl.RPt) {
	for _, c := range lists {
		for i, p := range c {
			for _, a := range []impl.Rat{p.X, p.Y} {
				for _, limbs := range [][]int{a.Num.Limbs, a.Den.Limbs} {
					for j := range limbs {
						limbs[j] = -7
					}
					_ = append(limbs, -8)
				}
			}
			c[i] = impl.RPt{}
		}
		_ = append(c, rpt(whole(most()), whole(most())))
	}
}

// What is told is new at each call: what is written into it is not seen in the argument, nor in what is told again, nor in the other part.
func TestPromise19CurvesToldAnew(t *testing.T) {
	r := fixed(161)
	for _, from := range curvesOfAll(r) {
		c := cloneCurve(from)
		for _, tell := range []func([]impl.RPt) ([]impl.RPt, bool){impl.RaiseCurve, impl.ReverseCurve, impl.PowersOf} {
			first, ok := tell(c)
			kept := cloneCurve(first)
			spoil(first)
			if again, is := tell(c); is != ok || !sameCurve(again, kept) || !sameCurve(c, from) {
				t.Fatalf("told %v %v, then %v %v of %v", kept, ok, again, is, from)
			}
		}
		for _, at := range []string{"0", "1", "1/2"} {
			first, last, ok := impl.SplitCurve(c, ratFrom(at))
			keptFirst, keptLast := cloneCurve(first), cloneCurve(last)
			spoil(first)
			if !sameCurve(last, keptLast) {
				t.Fatalf("SplitCurve %v: %v shares with %v", from, keptFirst, keptLast)
			}
			spoil(last)
			first, last, is := impl.SplitCurve(c, ratFrom(at))
			if is != ok || !sameCurve(first, keptFirst) || !sameCurve(last, keptLast) || !sameCurve(c, from) {
				t.Fatalf("SplitCurve %v: %v %v, then %v %v", from, keptFirst, keptLast, first, last)
			}
			p, _ := impl.CurveAt(c, ratFrom(at))
			mixed, _ := impl.MixPt(c[0], c[0], ratFrom(at))
			spoil([]impl.RPt{p}, []impl.RPt{mixed})
			if !sameCurve(c, from) {
				t.Fatalf("CurveAt or MixPt of %v shares with it: %v", from, c)
			}
		}
	}
	c, _ := impl.CurveOf(wayOf(1, 2, 1, 2))
	spoil(c[:1:1])
	if again, ok := impl.CurveOf(wayOf(1, 2, 1, 2)); !ok || curveText(t, c[1:]) != "1,2" || curveText(t, again) != "1,2 1,2" {
		t.Errorf("CurveOf: %v, then %v %v", c, again, ok)
	}
}

// Behind its length an answer has no memory that a later append would show.
func TestPromise19NothingBehindCurves(t *testing.T) {
	for _, c := range curvesOfAll(fixed(162)) {
		answers := watch(t, impl.SplitCurve, c, ratFrom("1/2"))[:2]
		for _, f := range []any{impl.RaiseCurve, impl.ReverseCurve, impl.PowersOf} {
			answers = append(answers, watch(t, f, c)[0])
		}
		for _, list := range answers {
			for i := list.Len(); i < list.Cap(); i++ {
				if behind := list.Slice(0, list.Cap()).Index(i); !behind.IsZero() {
					t.Errorf("of %v: behind %v lies %v", c, list, behind)
				}
			}
		}
	}
}
