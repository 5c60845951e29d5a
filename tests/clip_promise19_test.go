package tests

import (
	"slices"
	"testing"

	"loop.example/g00409/impl"
)

// callsOfRing are all functions of the chapter that take a ring alone.
func callsOfRing() []any {
	return []any{impl.GoodRing, impl.RingArea, impl.FlipRing}
}

// callsOfRingAndCut are those that take one cut, too.
func callsOfRingAndCut() []any {
	return []any{impl.ClipLow, impl.ClipHigh}
}

// wantNoRing wants the zero answer of all functions that take a ring.
func wantNoRing(t *testing.T, wrong []impl.RPt) {
	t.Helper()
	for _, f := range callsOfRing() {
		wantZero(t, f, wrong)
	}
	for _, f := range callsOfRingAndCut() {
		for _, at := range []string{"-99", "1/2"} {
			wantZero(t, f, wrong, false, ratFrom(at))
			wantZero(t, f, wrong, true, ratFrom(at))
		}
	}
	wantZero(t, impl.ClipBox, wrong, rptFrom("0,0"), rptFrom("1,1"))
	wantZero(t, impl.ClipBox, wrong, rptFrom("98,98"), rptFrom("99,99"))
}

func TestPromise19GoodRings(t *testing.T) {
	r := fixed(180)
	many := map[bool]int{}
	for _, l := range ringsOfAll(r) {
		watchTold(t, impl.GoodRing, l)
		watchTold(t, impl.FlipRing, l)
		watch(t, impl.RingArea, l)
		cuts := append(cutsAmong(l), smallRat(r, 5, 5), someRat(r, drawLimbs))
		for _, at := range cuts {
			for _, f := range callsOfRingAndCut() {
				many[watch(t, f, l, false, at)[1].Bool()]++
				many[watch(t, f, l, true, at)[1].Bool()]++
			}
			many[watch(t, impl.ClipBox, l, rpt(at, at), rpt(at, at))[1].Bool()]++
			many[watch(t, impl.ClipBox, l, rpt(at, cuts[0]), rpt(cuts[1], at))[1].Bool()]++
		}
	}
	for n := 3; n <= impl.MaxCorners; n++ {
		for _, wide := range []int{0, 1, far} {
			watchTold(t, impl.RingOf, somePts(r, n, wide))
		}
	}
	if many[true] < 4000 || many[false] < 200 {
		t.Error("told and not:", many)
	}
}

func TestPromise19ClipsWrittenOut(t *testing.T) {
	for _, c := range clipRows() {
		l, at := curveFrom(c.ring), ratFrom(c.at)
		for _, f := range callsOfRingAndCut() {
			watchTold(t, f, l, false, at)
			watchTold(t, f, changedXY(l), true, at)
		}
	}
	for _, c := range boxRows() {
		watchTold(t, impl.ClipBox, curveFrom(c.ring), rptFrom(c.lo), rptFrom(c.hi))
	}
}

// The empty list and the nil list are one ring, which has no area.
func TestPromise19RingOfNoPoint(t *testing.T) {
	for _, l := range [][]impl.RPt{nil, {}} {
		for _, f := range callsOfRing() {
			watchTold(t, f, l)
		}
		area, ok := impl.RingArea(l)
		wantRat(t, "RingArea of no point", area, ok, plainRat(ratFrom("0")))
		for _, s := range sidesOfCuts() {
			part, ok := s.clip(l, ratFrom("0"))
			wantCurve(t, s.name()+"of no point", part, ok, nil)
		}
		part, ok := impl.ClipBox(l, rptFrom("0,0"), rptFrom("0,0"))
		wantCurve(t, "ClipBox of no point", part, ok, nil)
	}
}

// Too many points, where those that are there would do.
func TestPromise19TooManyPointsInARing(t *testing.T) {
	for _, n := range []int{impl.MaxRing + 1, impl.MaxRing + 2, 2 * impl.MaxRing, 3000} {
		for _, p := range []string{"0,0", "1/2,-3"} {
			wantNoRing(t, slices.Repeat([]impl.RPt{rptFrom(p)}, n))
		}
		wantNoRing(t, make([]impl.RPt, n))
	}
	wantNoRing(t, zigzag(impl.MaxRing+1))
	wantNoRing(t, make([]impl.RPt, 1))
}

// A fraction that is not good, or too long, in X and in Y of each point.
func TestPromise19WrongFractionInARing(t *testing.T) {
	fine := rptFrom("1/2,-3")
	for _, wrong := range wrongRingRats() {
		for n := 1; n <= 3; n++ {
			for at := range n {
				for _, p := range []impl.RPt{rpt(wrong, fine.Y), rpt(fine.X, wrong)} {
					l := slices.Repeat([]impl.RPt{fine}, n)
					l[at] = p
					wantNoRing(t, l)
				}
			}
		}
		for _, at := range []int{0, impl.MaxRing / 2, impl.MaxRing - 1} {
			l := slices.Repeat([]impl.RPt{fine}, impl.MaxRing)
			l[at] = rpt(wrong, wrong)
			wantZero(t, impl.GoodRing, l)
			wantZero(t, impl.ClipBox, l, fine, fine)
		}
	}
}

func TestPromise19WrongCut(t *testing.T) {
	for _, wrong := range wrongDraws() {
		for _, l := range append([][]impl.RPt{nil, curveFrom("0,0"), curveFrom("0,0 4,0 4,4 0,4"), zigzag(26)}, make([]impl.RPt, 2), zigzag(impl.MaxRing+1)) {
			for _, f := range callsOfRingAndCut() {
				wantZero(t, f, l, false, wrong)
				wantZero(t, f, l, true, wrong)
			}
		}
	}
}

// Each field of lo and of hi for itself, also where the sides ahead have nothing left already.
func TestPromise19WrongBox(t *testing.T) {
	for _, wrong := range wrongDraws() {
		for _, l := range [][]impl.RPt{nil, curveFrom("0,0 4,0 4,4 0,4"), curveFrom("-50,-50")} {
			for _, c := range [][2]string{{"0,0", "1,1"}, {"0,0", "0,0"}, {"40,40", "50,50"}} {
				lo, hi := rptFrom(c[0]), rptFrom(c[1])
				wantZero(t, impl.ClipBox, l, rpt(wrong, lo.Y), hi)
				wantZero(t, impl.ClipBox, l, rpt(lo.X, wrong), hi)
				wantZero(t, impl.ClipBox, l, lo, rpt(wrong, hi.Y))
				wantZero(t, impl.ClipBox, l, lo, rpt(hi.X, wrong))
			}
			wantZero(t, impl.ClipBox, l, rpt(wrong, wrong), rpt(wrong, wrong))
		}
	}
	for _, l := range [][]impl.RPt{nil, curveFrom("0,0 4,0 4,4 0,4")} {
		wantZero(t, impl.ClipBox, l, impl.RPt{}, impl.RPt{})
		wantZero(t, impl.ClipBox, l, rptFrom("1,0"), rptFrom("0,1"))
		wantZero(t, impl.ClipBox, l, rptFrom("0,1"), rptFrom("1,0"))
		wantZero(t, impl.ClipBox, l, rptFrom("1/2,0"), rptFrom("1/3,9"))
	}
}

func TestPromise19RingOfNoWay(t *testing.T) {
	for _, wrong := range wrongWays() {
		wantZero(t, impl.RingOf, wrong)
	}
	eachWayWithOneBeyond(func(l []impl.Pt, at int) { wantZero(t, impl.RingOf, l) })
}

// What is told would have too many points, or too long ones, or too long an area: nothing of it is told.
func TestPromise19RingsGoneBeyond(t *testing.T) {
	for _, row := range clipLimits() {
		if row.told {
			continue
		}
		for _, f := range callsOfRingAndCut() {
			wantZero(t, f, row.ring, false, ratFrom("1"))
			wantZero(t, f, changedXY(row.ring), true, ratFrom("1"))
		}
	}
	for _, f := range callsOfRingAndCut() {
		wantZero(t, f, zigzag(impl.MaxRing), false, ratFrom("0"))
		wantZero(t, f, changedXY(zigzag(impl.MaxRing)), true, ratFrom("0"))
	}
	wantZero(t, impl.ClipBox, zigzag(impl.MaxRing), rptFrom("0,0"), rptFrom("1,99"))
	for _, row := range areaRings() {
		if max(row.num, row.den) > impl.MaxLimbs {
			wantZero(t, impl.RingArea, row.ring)
		}
	}
}

// sharedRings have one fraction in many places, one number as Num and Den, and one point as all of them.
func sharedRings() [][]impl.RPt {
	one := positive(1)
	same, half := over(one, one), ratFrom("-5/3")
	all := [][]impl.RPt{}
	for _, n := range []int{1, 2, 5, impl.MaxRing} {
		all = append(all, slices.Repeat([]impl.RPt{rpt(same, same)}, n), slices.Repeat([]impl.RPt{rpt(half, half)}, n), slices.Repeat([]impl.RPt{rpt(half, same)}, n))
	}
	a, b := rpt(half, same), rpt(same, half)
	return append(all, []impl.RPt{a, b, a, b}, []impl.RPt{a, a, b}, []impl.RPt{rpt(half, half), a, rpt(same, same), b})
}

// One fraction in the ring and as the cut, lo and hi one point: none may be worked on in its place, and what is told has memory of its own.
func TestPromise19OneFractionOften(t *testing.T) {
	for _, l := range sharedRings() {
		kept := cloneCurve(l)
		for _, f := range callsOfRing() {
			wantDirectly(t, f, watch(t, f, cloneCurve(l)), l)
		}
		for _, at := range []impl.Rat{l[0].X, l[0].Y, l[len(l)-1].X, ratFrom("0")} {
			for _, f := range callsOfRingAndCut() {
				for _, byY := range []bool{false, true} {
					wantDirectly(t, f, watch(t, f, cloneCurve(l), byY, cloneRat(at)), l, byY, at)
				}
			}
			box := rpt(at, at)
			wantDirectly(t, impl.ClipBox, watch(t, impl.ClipBox, cloneCurve(l), cloneCurve([]impl.RPt{box})[0], cloneCurve([]impl.RPt{box})[0]), l, box, box)
		}
		if !sameCurve(l, kept) {
			t.Fatalf("%v was written into: %v", kept, l)
		}
	}
}

// Rings that are pieces of a longer list: no call reads or writes what lies behind, or ahead.
func TestPromise19RingsInOneMemory(t *testing.T) {
	all := append(curveFrom("0,0 2,4 -4/3,0 1,1/2 -7,3 5,5"), impl.RPt{}, rpt(whole(most()), whole(positive(0))))
	kept := cloneCurve(all)
	half, lo, hi := ratFrom("1/2"), rptFrom("-1,1/3"), rptFrom("3,3")
	for from := range 7 {
		for to := from; to <= 6; to++ {
			l, same := all[from:to], cloneCurve(kept[from:to])
			for _, f := range callsOfRing() {
				wantDirectly(t, f, watchTold(t, f, same), l)
			}
			for _, f := range callsOfRingAndCut() {
				wantDirectly(t, f, watchTold(t, f, same, false, half), l, false, half)
				wantDirectly(t, f, watchTold(t, f, same, true, half), l, true, half)
			}
			wantDirectly(t, impl.ClipBox, watchTold(t, impl.ClipBox, same, lo, hi), l, lo, hi)
		}
	}
	if !sameCurve(all, kept) {
		t.Fatalf("written into: %v", all)
	}
	l := append(longWay(impl.MaxCorners), wayOf(77, 78, far+5, 0)...)
	before := slices.Clone(l)
	for n := 3; n <= impl.MaxCorners; n++ {
		wantDirectly(t, impl.RingOf, watchTold(t, impl.RingOf, slices.Clone(l[:n])), l[:n])
	}
	if !slices.Equal(l, before) {
		t.Fatalf("written into: %v", l)
	}
}

// What is told is new at each call: what is written into it is not seen in the ring, the cut or the box, nor in what is told again.
func TestPromise19RingsToldAnew(t *testing.T) {
	r := fixed(181)
	for _, from := range ringsOfAll(r) {
		l, at := cloneCurve(from), smallRat(r, 3, 2)
		cut, lo, hi := cloneRat(at), rpt(cloneRat(at), ratFrom("-3")), rptFrom("9,2")
		for _, tell := range []func() ([]impl.RPt, bool){
			func() ([]impl.RPt, bool) { return impl.ClipLow(l, false, cut) },
			func() ([]impl.RPt, bool) { return impl.ClipHigh(l, true, cut) },
			func() ([]impl.RPt, bool) { return impl.ClipBox(l, lo, hi) },
			func() ([]impl.RPt, bool) { return impl.FlipRing(l) },
			func() ([]impl.RPt, bool) { a, ok := impl.RingArea(l); return []impl.RPt{rpt(a, a)}, ok },
		} {
			first, ok := tell()
			kept := cloneCurve(first)
			spoil(first)
			again, is := tell()
			if is != ok || !sameCurve(again, kept) || !sameCurve(l, from) || !sameRat(cut, at) || !sameRat(lo.X, at) {
				t.Fatalf("told %v %v, then %v %v of %v", kept, ok, again, is, from)
			}
		}
	}
	ring, _ := impl.RingOf(wayOf(1, 2, 1, 2, 1, 2))
	spoil(ring[:1:1])
	if again, ok := impl.RingOf(wayOf(1, 2, 1, 2, 1, 2)); !ok || curveText(t, ring[1:]) != "1,2 1,2" || curveText(t, again) != "1,2 1,2 1,2" {
		t.Errorf("RingOf: %v, then %v %v", ring, again, ok)
	}
}

// One point of an answer may be written into without any other one being changed.
func TestPromise19PointsOfAnAnswerApart(t *testing.T) {
	square := curveFrom("0,0 4,0 4,4 0,4")
	same := slices.Repeat(square[1:2], 3)
	for _, tell := range []func() ([]impl.RPt, bool){
		func() ([]impl.RPt, bool) { return impl.ClipLow(square, false, ratFrom("1")) },
		func() ([]impl.RPt, bool) { return impl.ClipHigh(square, true, ratFrom("4")) },
		func() ([]impl.RPt, bool) { return impl.ClipBox(square, rptFrom("2,2"), rptFrom("2,2")) },
		func() ([]impl.RPt, bool) { return impl.FlipRing(same) },
		func() ([]impl.RPt, bool) { return impl.ClipLow(same, true, ratFrom("0")) },
		func() ([]impl.RPt, bool) { return impl.RingOf(wayOf(3, 3, 3, 3, 3, 3)) },
	} {
		kept, ok := tell()
		for i := range kept {
			l, is := tell()
			want := cloneCurve(l)
			want[i] = impl.RPt{}
			spoil(l[i : i+1 : i+1])
			if !ok || !is || !sameCurve(l, want) {
				t.Fatalf("point %d written into: %v, want %v", i, l, want)
			}
		}
	}
}

// Behind its length an answer has no memory that a later append would show.
func TestPromise19NothingBehindRings(t *testing.T) {
	for _, l := range ringsOfAll(fixed(182)) {
		for _, list := range []told{
			watch(t, impl.FlipRing, l), watch(t, impl.ClipLow, l, false, ratFrom("1/2")), watch(t, impl.ClipHigh, l, true, ratFrom("1")), watch(t, impl.ClipBox, l, rptFrom("0,0"), rptFrom("1,2")),
		} {
			for i := list[0].Len(); i < list[0].Cap(); i++ {
				if behind := list[0].Slice(0, list[0].Cap()).Index(i); !behind.IsZero() {
					t.Errorf("of %v: behind %v lies %v", l, list[0], behind)
				}
			}
		}
	}
}
