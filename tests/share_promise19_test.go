package tests

import (
	"math"
	"runtime"
	"slices"
	"sync"
	"testing"

	"loop.example/g00409/impl"
)

// callsOfRingAndWindow are all that take a ring and a window.
func callsOfRingAndWindow() []any {
	return []any{impl.SharesIn, impl.BytesIn}
}

func TestPromise19GoodShares(t *testing.T) {
	r := fixed(205)
	many := map[bool]int{}
	for _, l := range ringsInReach(r) {
		w := windowAbout(r, l)
		many[watch(t, impl.ShareOf, l, w.X, w.Y)[1].Bool()]++
		many[watch(t, impl.ShareOf, l, 0, 0)[1].Bool()]++
		for _, f := range callsOfRingAndWindow() {
			many[watch(t, f, l, w)[1].Bool()]++
			many[watch(t, f, l, windowOf(-1, 0, 2, 1))[1].Bool()]++
		}
	}
	for _, w := range edgeWindows() {
		watchTold(t, impl.SharesIn, curveFrom("-25,-25 30,-19/2 27/2,30"), w)
		watchTold(t, impl.BytesIn, curveFrom("-25,-25 30,-19/2 27/2,30"), w)
		watch(t, impl.GoodWindow, w)
	}
	if many[true] < 500 || many[false] < 50 {
		t.Error("told and not:", many)
	}
}

func TestPromise19SharesWrittenOut(t *testing.T) {
	for _, c := range shareRows() {
		watchTold(t, impl.ShareOf, curveFrom(c.ring), c.x, c.y)
	}
	for _, c := range sharesRows() {
		for _, f := range callsOfRingAndWindow() {
			watchTold(t, f, curveFrom(c.ring), c.w)
		}
	}
}

func TestPromise19GoodBytesAndSums(t *testing.T) {
	r := fixed(206)
	for _, a := range append(edgeRats(), smallRats(t, 5)...) {
		watch(t, impl.ByteOf, a)
		watch(t, impl.SumOf, []impl.Rat{a})
		watch(t, impl.SumOf, []impl.Rat{a, ratFrom("-1/3"), a, turnedRat(a)})
	}
	for _, row := range sumLimits() {
		watch(t, impl.SumOf, row.all)
	}
	for _, row := range byteLimits() {
		watch(t, impl.ByteOf, fromPlainRat(row.a))
	}
	for _, w := range edgeWindows() {
		bytes := someBytes(r, w)
		watchTold(t, impl.CropOf, w, bytes, w)
		watchTold(t, impl.CropOf, w, bytes, somePart(r, w))
	}
}

// The empty list and the nil list are one.
func TestPromise19NothingToShare(t *testing.T) {
	for _, l := range [][]impl.RPt{nil, {}} {
		share, ok := impl.ShareOf(l, lastSquare, -impl.MaxPlace)
		wantRat(t, "ShareOf no point", share, ok, plainRat(ratFrom("0")))
		shares, ok := impl.SharesIn(l, windowOf(3, -3, 2, 3))
		if !ok || !samePoly(shares, ratsFrom("0 0 0 0 0 0")) {
			t.Errorf("SharesIn no point: %v %v", shares, ok)
		}
		bytes, ok := impl.BytesIn(l, windowOf(3, -3, 2, 3))
		wantInts(t, "BytesIn no point", l, bytes, ok, make([]int, 6))
		watchTold(t, impl.SharesIn, l, windowOf(-20, 20, 8, 8))
	}
	for _, l := range [][]impl.Rat{nil, {}} {
		sum, ok := impl.SumOf(l)
		wantRat(t, "SumOf none", sum, ok, plainRat(ratFrom("0")))
		watchTold(t, impl.SumOf, l)
	}
}

// wantNoShares wants the zero answer of all functions that take a ring.
func wantNoShares(t *testing.T, wrong []impl.RPt) {
	t.Helper()
	wantZero(t, impl.ShareOf, wrong, 0, 0)
	wantZero(t, impl.ShareOf, wrong, lastSquare, -impl.MaxPlace)
	for _, f := range callsOfRingAndWindow() {
		wantZero(t, f, wrong, windowOf(0, 0, 1, 1))
		wantZero(t, f, wrong, windowOf(-impl.MaxPlace, impl.MaxPlace, 2, 1))
	}
}

func TestPromise19SharesOfNoRing(t *testing.T) {
	fine := rptFrom("1/2,-3")
	for _, wrong := range wrongRingRats() {
		for n := 1; n <= 3; n++ {
			l := slices.Repeat([]impl.RPt{fine}, n)
			l[n-1] = rpt(wrong, fine.Y)
			wantNoShares(t, l)
			l[n-1] = fine
			l[0] = rpt(fine.X, wrong)
			wantNoShares(t, l)
		}
	}
	for _, n := range []int{impl.MaxRing + 1, 2 * impl.MaxRing, 3000} {
		wantNoShares(t, slices.Repeat([]impl.RPt{fine}, n))
		wantNoShares(t, make([]impl.RPt, n))
	}
	wantNoShares(t, zigzag(impl.MaxRing+1))
	wantNoShares(t, make([]impl.RPt, 1))
}

func wrongSquares() []int {
	return []int{-impl.MaxPlace - 1, lastSquare + 1, -99, 99, math.MinInt, math.MinInt + 1, math.MaxInt, math.MaxInt - 1}
}

func TestPromise19WrongSquares(t *testing.T) {
	for _, l := range [][]impl.RPt{nil, curveFrom("0,0 4,0 4,4 0,4"), curveFrom("-1000,-1000 1000,-1000 1000,1000 -1000,1000")} {
		for _, wrong := range wrongSquares() {
			for _, fine := range []int{-impl.MaxPlace, 0, lastSquare} {
				wantZero(t, impl.ShareOf, l, wrong, fine)
				wantZero(t, impl.ShareOf, l, fine, wrong)
			}
			wantZero(t, impl.ShareOf, l, wrong, wrong)
		}
	}
}

func TestPromise19WrongWindows(t *testing.T) {
	for _, wrong := range wrongWindows() {
		for _, l := range [][]impl.RPt{nil, curveFrom("0,0 4,0 4,4 0,4"), curveFrom("-1000,-1000 1000,-1000 1000,1000 -1000,1000")} {
			for _, f := range callsOfRingAndWindow() {
				wantZero(t, f, l, wrong)
			}
		}
		fine := windowOf(0, 0, 2, 2)
		for _, bytes := range [][]int{nil, {1}, {1, 2, 3, 4}, make([]int, 64)} {
			wantZero(t, impl.CropOf, wrong, bytes, wrong)
			wantZero(t, impl.CropOf, wrong, bytes, fine)
			wantZero(t, impl.CropOf, fine, bytes, wrong)
		}
		// As many bytes as the wrong window would have.
		if many := wrong.W * wrong.H; many >= 0 && many <= 999 {
			wantZero(t, impl.CropOf, wrong, make([]int, many), wrong)
			wantZero(t, impl.CropOf, wrong, make([]int, many), windowOf(wrong.X, wrong.Y, 1, 1))
		}
		wantZero(t, impl.GoodWindow, wrong)
	}
}

func TestPromise19WrongFractionsToSum(t *testing.T) {
	for _, wrong := range wrongRats() {
		wantZero(t, impl.ByteOf, wrong)
		wantZero(t, impl.SumOf, []impl.Rat{wrong})
		for n := 2; n <= 4; n++ {
			for at := range n {
				l := slices.Repeat([]impl.Rat{ratFrom("-2/3")}, n)
				l[at] = wrong
				wantZero(t, impl.SumOf, l)
			}
		}
		last := slices.Repeat([]impl.Rat{ratFrom("1/2")}, mostSummed)
		last[mostSummed-1] = wrong
		wantZero(t, impl.SumOf, last)
	}
	for _, n := range []int{mostSummed + 1, mostSummed + 2, 3000} {
		wantZero(t, impl.SumOf, slices.Repeat(ratsFrom("0"), n))
		wantZero(t, impl.SumOf, make([]impl.Rat, n))
	}
}

func TestPromise19WrongBytesToCrop(t *testing.T) {
	for _, w := range []impl.Window{windowOf(0, 0, 1, 1), windowOf(-2, 5, 3, 2), windowOf(20, -20, 8, 8)} {
		fine := numbered(w)
		part := windowOf(w.X, w.Y, 1, 1)
		for at := range fine {
			for _, wrong := range []int{-1, 256, -256, 1000, math.MinInt, math.MaxInt} {
				bytes := slices.Clone(fine)
				bytes[at] = wrong
				wantZero(t, impl.CropOf, w, bytes, part)
				wantZero(t, impl.CropOf, w, bytes, w)
			}
			for _, edge := range []int{0, 255} {
				bytes := slices.Clone(fine)
				bytes[at] = edge
				watchTold(t, impl.CropOf, w, bytes, w)
			}
		}
		wantZero(t, impl.CropOf, w, fine[:len(fine)-1], part)
		wantZero(t, impl.CropOf, w, append(slices.Clone(fine), 7), part)
		wantZero(t, impl.CropOf, w, []int(nil), part)
		wantZero(t, impl.CropOf, w, make([]int, 3000), part)
	}
	// As many bytes as the part has squares, or as the window has the other way round, are too few or too many.
	w, part := windowOf(0, 0, 4, 3), windowOf(1, 1, 2, 2)
	wantZero(t, impl.CropOf, w, make([]int, 4), part)
	wantZero(t, impl.CropOf, w, make([]int, 16), part)
	wantZero(t, impl.CropOf, w, make([]int, 9), part)
}

func TestPromise19PartsThatStandOut(t *testing.T) {
	w := windowOf(-2, 5, 4, 3)
	bytes := numbered(w)
	for _, part := range []impl.Window{
		windowOf(-3, 5, 4, 3), windowOf(-1, 5, 4, 3), windowOf(-2, 4, 4, 3), windowOf(-2, 6, 4, 3), windowOf(-2, 5, 5, 3), windowOf(-2, 5, 4, 4), windowOf(-3, 5, 5, 3), windowOf(-2, 4, 4, 4),
		windowOf(-3, 5, 1, 1), windowOf(2, 5, 1, 1), windowOf(-2, 4, 1, 1), windowOf(-2, 8, 1, 1), windowOf(1, 7, 2, 1), windowOf(1, 7, 1, 2), windowOf(-3, 4, 6, 5), windowOf(-2, 5, 8, 8),
		windowOf(9, 9, 1, 1), windowOf(-20, -20, 1, 1), windowOf(20, 20, 8, 8),
	} {
		wantZero(t, impl.CropOf, w, bytes, part)
	}
	for _, part := range []impl.Window{windowOf(-2, 5, 1, 1), windowOf(1, 5, 1, 1), windowOf(-2, 7, 1, 1), windowOf(1, 7, 1, 1), w} {
		watchTold(t, impl.CropOf, w, bytes, part)
	}
}

// One fraction in many places, and one point as all of a ring: none may be worked on in its place, and what is told has memory of its own.
func TestPromise19OneFractionInManyShares(t *testing.T) {
	for _, l := range sharedRings() {
		kept := cloneCurve(l)
		wantDirectly(t, impl.ShareOf, watch(t, impl.ShareOf, cloneCurve(l), -2, -2), l, -2, -2)
		for _, f := range callsOfRingAndWindow() {
			w := windowOf(-2, -2, 4, 3)
			wantDirectly(t, f, watch(t, f, cloneCurve(l), w), l, w)
		}
		if !sameCurve(l, kept) {
			t.Fatalf("%v was written into: %v", kept, l)
		}
	}
	one := positive(1)
	same, half := over(one, one), ratFrom("-5/3")
	for _, l := range [][]impl.Rat{{same}, {same, same}, {half, half, half}, {half, same, half}, slices.Repeat([]impl.Rat{half}, mostSummed)} {
		kept := clonePoly(l)
		wantDirectly(t, impl.SumOf, watchTold(t, impl.SumOf, clonePoly(l)), l)
		wantDirectly(t, impl.ByteOf, watchTold(t, impl.ByteOf, cloneRat(l[0])), l[0])
		if !samePoly(l, kept) {
			t.Fatalf("%v was written into: %v", kept, l)
		}
	}
}

// Lists that are pieces of a longer one: no call reads or writes what lies behind, or ahead.
func TestPromise19SharesInOneMemory(t *testing.T) {
	all := append(curveFrom("0,0 2,4 -4/3,0 1,1/2 -7,3 5,5"), impl.RPt{}, rpt(whole(most()), whole(positive(0))))
	kept := cloneCurve(all)
	w := windowOf(-2, 0, 3, 2)
	for from := range 7 {
		for to := from; to <= 6; to++ {
			l, same := all[from:to], cloneCurve(kept[from:to])
			wantDirectly(t, impl.ShareOf, watchTold(t, impl.ShareOf, same, 0, 1), l, 0, 1)
			for _, f := range callsOfRingAndWindow() {
				wantDirectly(t, f, watchTold(t, f, same, w), l, w)
			}
		}
	}
	if !sameCurve(all, kept) {
		t.Fatalf("written into: %v", all)
	}
	fractions := append(ratsFrom("0 2 -4/3 1/2 7"), impl.Rat{}, over(positive(2), positive(4)))
	before := clonePoly(fractions)
	for n := range 6 {
		wantDirectly(t, impl.SumOf, watchTold(t, impl.SumOf, clonePoly(fractions[:n])), fractions[:n])
	}
	bytes := []int{1, 2, 3, 4, 5, 6, -1, 256}
	same := slices.Clone(bytes)
	part := windowOf(-1, 0, 2, 2)
	wantDirectly(t, impl.CropOf, watchTold(t, impl.CropOf, w, slices.Clone(bytes[:6]), part), w, bytes[:6], part)
	if !samePoly(fractions, before) || !slices.Equal(bytes, same) {
		t.Fatalf("written into: %v %v", fractions, bytes)
	}
}

// spoilRats writes into all that is told, limbs among it.
func spoilRats(l []impl.Rat) {
	for i, a := range l {
		spoil([]impl.RPt{rpt(a, a)})
		l[i] = impl.Rat{}
	}
	_ = append(l, whole(most()))
}

// What is told is new at each call: what is written into it is not seen in the arguments, nor in what is told again.
func TestPromise19SharesToldAnew(t *testing.T) {
	r := fixed(207)
	for _, from := range ringsInReach(r) {
		l, w := cloneCurve(from), windowAbout(r, from)
		summed := ratsFrom("1/2 -3 5/7")
		for _, tell := range []func() ([]impl.Rat, bool){
			func() ([]impl.Rat, bool) { a, ok := impl.ShareOf(l, w.X, w.Y); return []impl.Rat{a}, ok },
			func() ([]impl.Rat, bool) { return impl.SharesIn(l, w) },
			func() ([]impl.Rat, bool) { a, ok := impl.SumOf(summed); return []impl.Rat{a}, ok },
			func() ([]impl.Rat, bool) { a, ok := impl.SumOf(summed[:1]); return []impl.Rat{a}, ok },
		} {
			first, ok := tell()
			kept := clonePoly(first)
			spoilRats(first)
			again, is := tell()
			if is != ok || !samePoly(again, kept) || !sameCurve(l, from) || !samePoly(summed, ratsFrom("1/2 -3 5/7")) {
				t.Fatalf("told %v %v, then %v %v of %v", kept, ok, again, is, from)
			}
		}
	}
	w, bytes := windowOf(0, 0, 2, 2), []int{1, 2, 3, 4}
	for _, part := range []impl.Window{w, windowOf(0, 0, 2, 1), windowOf(1, 0, 1, 2)} {
		first, _ := impl.CropOf(w, bytes, part)
		kept := slices.Clone(first)
		for i := range first {
			first[i] = -7
		}
		_ = append(first, -8)
		again, ok := impl.CropOf(w, bytes, part)
		wantInts(t, "CropOf again", part, again, ok, kept)
		wantInts(t, "the bytes", w, bytes, true, []int{1, 2, 3, 4})
	}
}

// One share of an answer may be written into without any other one being changed, also where all are alike, or 0.
func TestPromise19SharesOfAnAnswerApart(t *testing.T) {
	for _, c := range []string{"0,0 4,0 4,4 0,4", "", "0,0 3,0 0,3", "9,9 8,7 7,8"} {
		l, w := curveFrom(c), windowOf(0, 0, 3, 2)
		kept, ok := impl.SharesIn(l, w)
		for i := range kept {
			shares, is := impl.SharesIn(l, w)
			want := clonePoly(shares)
			want[i] = impl.Rat{}
			spoilRats(shares[i : i+1 : i+1])
			if !ok || !is || !samePoly(shares, want) {
				t.Fatalf("share %d written into: %v, want %v", i, shares, want)
			}
		}
	}
}

// Behind its length an answer has no memory that a later append would show.
func TestPromise19NothingBehindShares(t *testing.T) {
	r := fixed(208)
	for _, l := range ringsInReach(r) {
		w := windowAbout(r, l)
		bytes := someBytes(r, w)
		for _, list := range []told{watch(t, impl.SharesIn, l, w), watch(t, impl.BytesIn, l, w), watch(t, impl.CropOf, w, bytes, somePart(r, w))} {
			for i := list[0].Len(); i < list[0].Cap(); i++ {
				if behind := list[0].Slice(0, list[0].Cap()).Index(i); !behind.IsZero() {
					t.Errorf("of %v: behind %v lies %v", l, list[0], behind)
				}
			}
		}
	}
}

// What is told hangs on no order: told often, by one and by many at once, on one processor and on all, it is what each square alone has.
func TestPromise19SharesInNoOrder(t *testing.T) {
	l, w := curveFrom("-7/2,-3 9/2,-5/2 3,4 0,1/3 -4,7/2"), windowOf(-4, -3, impl.MaxWindow, 7)
	want := []impl.Rat{}
	for _, p := range squaresRowByRow(w) {
		share, ok := impl.ShareOf(l, p.X, p.Y)
		if !ok {
			t.Fatalf("ShareOf %v: refused", p)
		}
		want = append(want, share)
	}
	wantBytes, _ := impl.BytesIn(l, w)
	before := runtime.GOMAXPROCS(1)
	defer runtime.GOMAXPROCS(before)
	for _, processors := range []int{1, 2, before} {
		runtime.GOMAXPROCS(processors)
		var all sync.WaitGroup
		for range 12 {
			all.Go(func() {
				for range 4 {
					shares, ok := impl.SharesIn(l, w)
					bytes, is := impl.BytesIn(l, w)
					if !ok || !is || !samePoly(shares, want) || !slices.Equal(bytes, wantBytes) {
						t.Errorf("SharesIn on %d processors: %v %v, want %v", processors, shares, ok, want)
					}
				}
			})
		}
		all.Wait()
	}
}

// Also where a square is not told, and others are left: nothing goes on when the call has answered.
func TestPromise19NothingGoesOn(t *testing.T) {
	long := curveFrom("0,0 2,1/" + powerOfTwo(127, 0) + " 2,5 0,5")
	before := runtime.NumGoroutine()
	for range 200 {
		wantTaken(t, false, impl.SharesIn, long, windowOf(-1, -1, 4, 4))
		wantTaken(t, true, impl.SharesIn, long, windowOf(2, 0, 2, 2))
	}
	if now := runtime.NumGoroutine(); now > before {
		t.Errorf("%d go on", now-before)
	}
}
