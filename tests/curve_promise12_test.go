package tests

import (
	"math/big"
	"testing"

	"loop.example/g00409/impl"
)

// placesAlong are places within a curve, at its ends and beyond them.
func placesAlong() []impl.Rat {
	all := []impl.Rat{}
	for _, s := range []string{"0", "1", "1/2", "1/3", "3/4", "-1", "2", "-5/2", "9/7"} {
		all = append(all, ratFrom(s))
	}
	return all
}

func placeOf(t *testing.T, c []impl.RPt, at *big.Rat) impl.RPt {
	t.Helper()
	p, ok := impl.CurveAt(c, fromPlainRat(at))
	if !ok {
		t.Fatalf("CurveAt %v at %v: refused", c, at)
	}
	return p
}

// isPlace: whether it may be asked for, not having too many limbs.
func isPlace(at *big.Rat) bool {
	a := fromPlainRat(at)
	return max(len(a.Num.Limbs), len(a.Den.Limbs)) <= drawLimbs
}

func sweepPlainly(t *testing.T, c []impl.RPt) *big.Rat {
	t.Helper()
	sweep, ok := impl.SweepOf(c)
	if !ok {
		t.Fatalf("SweepOf %v: refused", c)
	}
	return plainRat(sweep)
}

// checkPartsOn: promise 12, both parts of a curve lie on it, the first one up to the place and the last one from there on, and what lies under both is what lies under the whole. It answers whether they are told.
func checkPartsOn(t *testing.T, c []impl.RPt, at impl.Rat) bool {
	t.Helper()
	first, last, ok := impl.SplitCurve(c, at)
	if !ok {
		return false
	}
	for _, s := range placesAlong() {
		x, up := plainRat(s), plainRat(at)
		before := new(big.Rat).Mul(x, up)
		behind := new(big.Rat).Add(up, new(big.Rat).Mul(x, restOf(up)))
		if got := placeOf(t, first, x); isPlace(before) && !sameRPt(got, placeOf(t, c, before)) {
			t.Fatalf("%v split at %v: the first part has %v at %v, the curve not at %v", c, at, got, x, before)
		}
		if got := placeOf(t, last, x); isPlace(behind) && !sameRPt(got, placeOf(t, c, behind)) {
			t.Fatalf("%v split at %v: the last part has %v at %v, the curve not at %v", c, at, got, x, behind)
		}
	}
	both := new(big.Rat).Add(sweepPlainly(t, first), sweepPlainly(t, last))
	if whole := sweepPlainly(t, c); both.Cmp(whole) != 0 {
		t.Fatalf("%v split at %v: under both parts lies %v, under the whole %v", c, at, both, whole)
	}
	return true
}

// checkSameRaised: promise 12, a raised curve is the same curve. It answers whether it is told.
func checkSameRaised(t *testing.T, c []impl.RPt) bool {
	t.Helper()
	raised, ok := impl.RaiseCurve(c)
	if !ok {
		return false
	}
	for _, s := range placesAlong() {
		if got, want := placeOf(t, raised, plainRat(s)), placeOf(t, c, plainRat(s)); !sameRPt(got, want) {
			t.Fatalf("%v raised has %v at %v, not %v", c, got, s, want)
		}
	}
	powers, ok := impl.PowersOf(raised)
	before, is := impl.PowersOf(c)
	wantCurve(t, "PowersOf a raised curve", powers, ok && is, append(before, rptFrom("0,0")))
	if got, want := sweepPlainly(t, raised), sweepPlainly(t, c); got.Cmp(want) != 0 {
		t.Fatalf("under %v raised lies %v, not %v", c, got, want)
	}
	return true
}

func TestPromise12PartsLieOnTheCurve(t *testing.T) {
	r := fixed(153)
	told := map[int]int{}
	for _, c := range curvesOfAll(r) {
		for _, at := range edgeDraws() {
			if checkPartsOn(t, c, at) {
				told[len(c)]++
			}
		}
	}
	for range 200 {
		c := smallCurve(r, 1+r.IntN(impl.MaxDraws), 9, 5)
		if checkPartsOn(t, c, smallRat(r, 5, 5)) {
			told[len(c)]++
		}
	}
	for n := 1; n <= impl.MaxDraws; n++ {
		if told[n] < 40 {
			t.Errorf("of %d points too few are told: %d", n, told[n])
		}
	}
}

// A part may be split again: a quarter of a curve is a half of its half.
func TestPromise12HalvesOfHalves(t *testing.T) {
	r := fixed(154)
	for range 60 {
		c := smallCurve(r, 1+r.IntN(impl.MaxDraws), 9, 3)
		first, last, ok := impl.SplitCurve(c, ratFrom("1/2"))
		one, two, is := impl.SplitCurve(first, ratFrom("1/2"))
		three, four, was := impl.SplitCurve(last, ratFrom("1/2"))
		quarter, rest, told := impl.SplitCurve(c, ratFrom("1/4"))
		if !ok || !is || !was || !told {
			t.Fatalf("SplitCurve %v: refused", c)
		}
		wantCurve(t, "a quarter", one, true, quarter)
		_, behind, ok := impl.SplitCurve(rest, ratFrom("2/3"))
		wantCurve(t, "the last quarter", four, ok, behind)
		sum := new(big.Rat)
		for _, part := range [][]impl.RPt{one, two, three, four} {
			checkPartsOn(t, part, ratFrom("1/2"))
			sum.Add(sum, sweepPlainly(t, part))
		}
		if whole := sweepPlainly(t, c); sum.Cmp(whole) != 0 {
			t.Fatalf("under four parts of %v lies %v, under the whole %v", c, sum, whole)
		}
	}
}

func TestPromise12RaisedIsTheSame(t *testing.T) {
	r := fixed(155)
	told := map[int]int{}
	all := curvesOfAll(r)
	for range 200 {
		all = append(all, smallCurve(r, 1+r.IntN(impl.MaxDraws), 99, 9), someCurve(r, 1+r.IntN(impl.MaxDraws), 1))
	}
	for _, c := range all {
		if checkSameRaised(t, c) {
			told[len(c)]++
		}
	}
	for n := 1; n < impl.MaxDraws; n++ {
		if told[n] < 15 {
			t.Errorf("of %d points too few are told: %d", n, told[n])
		}
	}
	if told[impl.MaxDraws] > 0 {
		t.Errorf("of %d points %d are told", impl.MaxDraws, told[impl.MaxDraws])
	}
}

// From one point up to as many as may be, and no further.
func TestPromise12RaisedAgainAndAgain(t *testing.T) {
	r := fixed(156)
	for n := 1; n <= impl.MaxDraws; n++ {
		c := smallCurve(r, n, 9, 5)
		raised := c
		for range impl.MaxDraws - n {
			if !checkSameRaised(t, raised) {
				t.Fatalf("RaiseCurve %v: refused", raised)
			}
			raised, _ = impl.RaiseCurve(raised)
		}
		if len(raised) != impl.MaxDraws || checkSameRaised(t, raised) {
			t.Fatalf("%v raised: %v", c, raised)
		}
		for _, s := range placesAlong() {
			if got, want := placeOf(t, raised, plainRat(s)), placeOf(t, c, plainRat(s)); !sameRPt(got, want) {
				t.Fatalf("%v raised to %d points has %v at %v, not %v", c, impl.MaxDraws, got, s, want)
			}
		}
	}
}

// The reversed curve has the same places, and as much below 0 lies under it.
func TestPromise12Reversed(t *testing.T) {
	r := fixed(157)
	for _, c := range curvesOfAll(r) {
		back, ok := impl.ReverseCurve(c)
		if !ok {
			t.Fatalf("ReverseCurve %v: refused", c)
		}
		for _, s := range placesAlong() {
			if got, want := placeOf(t, back, restOf(plainRat(s))), placeOf(t, c, plainRat(s)); !sameRPt(got, want) {
				t.Fatalf("%v reversed has %v, not %v at %v", c, got, want, s)
			}
		}
		if got, want := sweepPlainly(t, back), new(big.Rat).Neg(sweepPlainly(t, c)); got.Cmp(want) != 0 {
			t.Fatalf("under %v reversed lies %v, not %v", c, got, want)
		}
		first, last, ok := impl.SplitCurve(c, ratFrom("1/3"))
		lastBack, firstBack, is := impl.SplitCurve(back, ratFrom("2/3"))
		if ok != is || !sameCurve(backwardsCurve(first), firstBack) || !sameCurve(backwardsCurve(last), lastBack) {
			t.Fatalf("%v split: %v %v %v, reversed %v %v %v", c, first, last, ok, lastBack, firstBack, is)
		}
	}
}

// Once round by lines there lies the area of the way under all of them (chapter 8), and so it does where each line is drawn by more points.
func TestPromise12AreasOfWays(t *testing.T) {
	r := fixed(158)
	for _, l := range append(simpleWays(), windingWays()...) {
		area, ok := impl.AreaTwice(l)
		if !ok {
			t.Fatalf("AreaTwice %v: refused", l)
		}
		sum := new(big.Rat)
		for i, p := range l {
			line, ok := impl.CurveOf([]impl.Pt{p, l[(i+1)%len(l)]})
			for range r.IntN(4) {
				raised, is := impl.RaiseCurve(line)
				line, ok = raised, ok && is
			}
			if !ok {
				t.Fatalf("a line of %v: refused", l)
			}
			sum.Add(sum, sweepPlainly(t, line))
		}
		if sum.Cmp(big.NewRat(int64(area), 2)) != 0 {
			t.Fatalf("under the lines of %v lies %v, twice its area is %d", l, sum, area)
		}
	}
}

// What lies under a curve that comes back does not hang on where it is.
func TestPromise12MovedLoops(t *testing.T) {
	r := fixed(159)
	for n := 2; n < impl.MaxDraws; n++ {
		for range 20 {
			l := somePts(r, n, 400)
			l = append(l, l[0])
			by := somePt(r, 500)
			moved := make([]impl.Pt, len(l))
			for i, p := range l {
				moved[i] = pt(p.X+by.X, p.Y+by.Y)
			}
			c, ok := impl.CurveOf(l)
			d, is := impl.CurveOf(moved)
			if !ok || !is {
				t.Fatalf("CurveOf %v %v: refused", l, moved)
			}
			if got, want := sweepPlainly(t, d), sweepPlainly(t, c); got.Cmp(want) != 0 {
				t.Fatalf("under %v lies %v, under %v %v", moved, got, l, want)
			}
		}
	}
}

// By many short lines from place to place one comes as near as is wanted to what lies under a curve.
func TestPromise12SweepByShortLines(t *testing.T) {
	const steps = 64
	for _, c := range edgeCurves() {
		if limbsIn(c...) > 1 {
			continue
		}
		sum := new(big.Rat)
		for i := range steps {
			a, b := placeOf(t, c, big.NewRat(int64(i), steps)), placeOf(t, c, big.NewRat(int64(i)+1, steps))
			cross := new(big.Rat).Mul(plainRat(a.X), plainRat(b.Y))
			cross.Sub(cross, new(big.Rat).Mul(plainRat(b.X), plainRat(a.Y)))
			sum.Add(sum, cross.Mul(cross, big.NewRat(1, 2)))
		}
		apart := new(big.Rat).Sub(sum, sweepPlainly(t, c))
		if apart.Abs(apart).Cmp(big.NewRat(1, 50)) > 0 {
			t.Errorf("under %v lies %v, by short lines %v", curveText(t, c), sweepPlainly(t, c).FloatString(4), sum.FloatString(4))
		}
	}
}
