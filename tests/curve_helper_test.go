package tests

import (
	"math/big"
	"math/rand/v2"
	"slices"
	"strings"
	"testing"

	"loop.example/g00409/impl"
)

// drawLimbs is how many limbs Num and Den of a curve's fractions may have.
const drawLimbs = 2

// rpt puts two fractions in one point as they are, good or not.
func rpt(x, y impl.Rat) impl.RPt {
	return impl.RPt{X: x, Y: y}
}

// ratFrom reads whole numbers and fractions, as long as they may be.
func ratFrom(s string) impl.Rat {
	r, ok := new(big.Rat).SetString(s)
	if !ok {
		panic("no fraction: " + s)
	}
	return fromPlainRat(r)
}

// rptFrom reads X and Y with a comma between.
func rptFrom(s string) impl.RPt {
	x, y, ok := strings.Cut(s, ",")
	if !ok {
		panic("no point: " + s)
	}
	return rpt(ratFrom(x), ratFrom(y))
}

// curveFrom reads points with a blank between.
func curveFrom(s string) []impl.RPt {
	c := []impl.RPt{}
	for _, p := range strings.Fields(s) {
		c = append(c, rptFrom(p))
	}
	return c
}

func curveText(t *testing.T, c []impl.RPt) string {
	t.Helper()
	all := make([]string, len(c))
	for i, p := range c {
		all[i] = ratText(t, p.X) + "," + ratText(t, p.Y)
	}
	return strings.Join(all, " ")
}

func sameRPt(a, b impl.RPt) bool {
	return sameRat(a.X, b.X) && sameRat(a.Y, b.Y)
}

func sameCurve(c, d []impl.RPt) bool {
	return slices.EqualFunc(c, d, sameRPt)
}

func cloneCurve(c []impl.RPt) []impl.RPt {
	all := make([]impl.RPt, len(c))
	for i, p := range c {
		all[i] = rpt(cloneRat(p.X), cloneRat(p.Y))
	}
	return all
}

func backwardsCurve(c []impl.RPt) []impl.RPt {
	back := cloneCurve(c)
	slices.Reverse(back)
	return back
}

// coordsOf are the X of all points, and their Y.
func coordsOf(c []impl.RPt) (plainPoly, plainPoly) {
	xs, ys := plainPoly{}, plainPoly{}
	for _, p := range c {
		xs, ys = append(xs, plainRat(p.X)), append(ys, plainRat(p.Y))
	}
	return xs, ys
}

func fromCoords(xs, ys plainPoly) []impl.RPt {
	c := make([]impl.RPt, len(xs))
	for i := range c {
		c[i] = rpt(fromPlainRat(xs[i]), fromPlainRat(ys[i]))
	}
	return c
}

func binomial(n, k int) *big.Rat {
	return new(big.Rat).SetInt(new(big.Int).Binomial(int64(n), int64(k)))
}

func restOf(t *big.Rat) *big.Rat {
	return new(big.Rat).Sub(big.NewRat(1, 1), t)
}

// bernsteinAt sums up each number with its weight, which the program does not: it goes by rows.
func bernsteinAt(l plainPoly, t *big.Rat) *big.Rat {
	n := len(l) - 1
	sum := new(big.Rat)
	for i, a := range l {
		part := binomial(n, i)
		part.Mul(part, plainPower(t, i)).Mul(part, plainPower(restOf(t), n-i))
		sum.Add(sum, part.Mul(part, a))
	}
	return sum
}

func plainAt(c []impl.RPt, t impl.Rat) impl.RPt {
	xs, ys := coordsOf(c)
	x := plainRat(t)
	return rpt(fromPlainRat(bernsteinAt(xs, x)), fromPlainRat(bernsteinAt(ys, x)))
}

// plainParts are the places at t of all beginnings of the curve, and of all its ends.
func plainParts(c []impl.RPt, t impl.Rat) ([]impl.RPt, []impl.RPt) {
	first, last := []impl.RPt{}, []impl.RPt{}
	for i := range c {
		first = append(first, plainAt(c[:i+1], t))
		last = append(last, plainAt(c[i:], t))
	}
	return first, last
}

// plainWeights multiplies weights out, each as a polynomial in t, which the program does not: it goes by differences. It has as many powers as there are numbers.
func plainWeights(l plainPoly) plainPoly {
	sum := plainNoughts(len(l))
	n := len(l) - 1
	for i, a := range l {
		weight := plainPoly{new(big.Rat).Mul(a, binomial(n, i))}
		for j := range n {
			by := plainPoly{big.NewRat(1, 1), big.NewRat(-1, 1)}
			if j < i {
				by = plainPoly{new(big.Rat), big.NewRat(1, 1)}
			}
			weight = weight.times(by)
		}
		for j, b := range weight {
			sum[j].Add(sum[j], b)
		}
	}
	return sum
}

func plainPowers(c []impl.RPt) []impl.RPt {
	xs, ys := coordsOf(c)
	return fromCoords(plainWeights(xs), plainWeights(ys))
}

// plainRaised multiplies by t and what is left of 1 to it, and holds weights against each other.
func plainRaised(c []impl.RPt) []impl.RPt {
	n := int64(len(c))
	raise := func(l plainPoly) plainPoly {
		told := plainNoughts(len(l) + 1)
		for i, a := range l {
			told[i].Add(told[i], new(big.Rat).Mul(a, big.NewRat(n-int64(i), n)))
			told[i+1].Add(told[i+1], new(big.Rat).Mul(a, big.NewRat(int64(i)+1, n)))
		}
		return told
	}
	xs, ys := coordsOf(c)
	return fromCoords(raise(xs), raise(ys))
}

// plainSweep integrates the whole polynomial, power by power.
func plainSweep(c []impl.RPt) *big.Rat {
	xs, ys := coordsOf(c)
	x, y := plainWeights(xs), plainWeights(ys)
	inner := x.times(y.slope()).plus(y.times(x.slope()).scaled(big.NewRat(-1, 1)))
	sum := new(big.Rat)
	for i, a := range inner {
		sum.Add(sum, new(big.Rat).Mul(a, big.NewRat(1, 2*int64(i+1))))
	}
	return sum
}

func isPlainCurve(c []impl.RPt) bool {
	for _, p := range c {
		for _, a := range []impl.Rat{p.X, p.Y} {
			if len(a.Num.Limbs) > drawLimbs || len(a.Den.Limbs) > drawLimbs {
				return false
			}
		}
	}
	return len(c) >= 1 && len(c) <= impl.MaxDraws
}

func wantRPt(t *testing.T, what string, a impl.RPt, ok bool, want impl.RPt) {
	t.Helper()
	if !ok || !sameRPt(a, want) {
		t.Fatalf("%s: %v %v, want %v", what, a, ok, want)
	}
	if !impl.GoodRat(a.X) || !impl.GoodRat(a.Y) {
		t.Fatalf("%s: %v is not good", what, a)
	}
}

func wantCurve(t *testing.T, what string, c []impl.RPt, ok bool, want []impl.RPt) {
	t.Helper()
	if !ok || !sameCurve(c, want) {
		t.Fatalf("%s: %v %v, want %v", what, c, ok, want)
	}
	for _, p := range c {
		if !impl.GoodRat(p.X) || !impl.GoodRat(p.Y) {
			t.Fatalf("%s: %v is not good", what, p)
		}
	}
}

func checkMix(t *testing.T, a, b impl.RPt, at impl.Rat) {
	t.Helper()
	p, ok := impl.MixPt(a, b, at)
	wantRPt(t, "MixPt", p, ok, plainAt([]impl.RPt{a, b}, at))
}

func checkAt(t *testing.T, c []impl.RPt, at impl.Rat) {
	t.Helper()
	p, ok := impl.CurveAt(c, at)
	wantRPt(t, "CurveAt "+curveText(t, c)+" at "+ratText(t, at), p, ok, plainAt(c, at))
}

// checkSplitCurve wants the zero answer where one of both parts is no curve; it answers whether both are told.
func checkSplitCurve(t *testing.T, c []impl.RPt, at impl.Rat) bool {
	t.Helper()
	first, last, ok := impl.SplitCurve(c, at)
	wantFirst, wantLast := plainParts(c, at)
	what := "SplitCurve " + curveText(t, c) + " at " + ratText(t, at)
	if !isPlainCurve(wantFirst) || !isPlainCurve(wantLast) {
		if ok || len(first) > 0 || len(last) > 0 {
			t.Fatalf("%s: %v %v %v, want the zero answer", what, first, last, ok)
		}
		return false
	}
	wantCurve(t, what, first, ok, wantFirst)
	wantCurve(t, what, last, ok, wantLast)
	if !impl.GoodCurve(first) || !impl.GoodCurve(last) {
		t.Fatalf("%s: %v or %v is not good", what, first, last)
	}
	return true
}

// checkRaise wants the zero answer where what should be told is no curve; it answers whether it is told.
func checkRaise(t *testing.T, c []impl.RPt) bool {
	t.Helper()
	raised, ok := impl.RaiseCurve(c)
	want := plainRaised(c)
	what := "RaiseCurve " + curveText(t, c)
	if !isPlainCurve(want) {
		if ok || len(raised) > 0 {
			t.Fatalf("%s: %v %v, want the zero answer", what, raised, ok)
		}
		return false
	}
	wantCurve(t, what, raised, ok, want)
	if !impl.GoodCurve(raised) {
		t.Fatalf("%s: %v is not good", what, raised)
	}
	return true
}

func checkPowers(t *testing.T, c []impl.RPt) {
	t.Helper()
	powers, ok := impl.PowersOf(c)
	wantCurve(t, "PowersOf "+curveText(t, c), powers, ok, plainPowers(c))
}

func checkReverse(t *testing.T, c []impl.RPt) {
	t.Helper()
	back, ok := impl.ReverseCurve(c)
	wantCurve(t, "ReverseCurve "+curveText(t, c), back, ok, backwardsCurve(c))
	again, ok := impl.ReverseCurve(back)
	wantCurve(t, "ReverseCurve twice "+curveText(t, c), again, ok, c)
}

func checkSweep(t *testing.T, c []impl.RPt) {
	t.Helper()
	sweep, ok := impl.SweepOf(c)
	wantRat(t, "SweepOf "+curveText(t, c), sweep, ok, plainSweep(c))
}

// checkCurve holds all that is told of one curve against the other way.
func checkCurve(t *testing.T, c []impl.RPt, ats ...impl.Rat) {
	t.Helper()
	if !impl.GoodCurve(c) {
		t.Fatalf("GoodCurve %v: false", c)
	}
	checkRaise(t, c)
	checkPowers(t, c)
	checkReverse(t, c)
	checkSweep(t, c)
	for _, at := range ats {
		checkAt(t, c, at)
		checkSplitCurve(t, c, at)
	}
}

// longDraw has drawLimbs limbs: one more would be one limb more.
func longDraw() impl.Big {
	return positive(top, top)
}

// halfDraw is 2 to the 31: twice it has a limb more than a curve's fractions may have.
func halfDraw() impl.Big {
	return positive(0, 32768)
}

// edgeDraws are 0, fractions at and around 1, and such that meet the limit in Num, in Den and in both, with both signs.
func edgeDraws() []impl.Rat {
	far := []impl.Rat{
		ratFrom("1"), ratFrom("1/2"), ratFrom("3/2"), ratFrom("2"), ratFrom("7/3"), ratFrom("65535/65536"), ratFrom("65537/65536"),
		whole(longDraw()), over(positive(1), longDraw()), over(longDraw(), positive(0, 1)), over(positive(0, 32768), longDraw()), over(positive(top-1, top), longDraw()),
	}
	all := []impl.Rat{whole(impl.Big{})}
	for _, a := range far {
		all = append(all, a, turnedRat(a))
	}
	return all
}

// longDraws are no fractions of a curve, each being one limb too long, or more.
func longDraws() []impl.Rat {
	one := positive(1)
	return []impl.Rat{
		whole(powerOf(2)), whole(turned(powerOf(2))), whole(positive(1, 0, 1)), over(one, powerOf(2)), over(negative(1), powerOf(2)), over(powerOf(2), longDraw()), over(longDraw(), powerOf(2)), over(powerOf(2), positive(1, 0, 1)),
		whole(powerOf(3)), over(negative(3), powerOf(5)), whole(most()), over(one, most()), over(most(), powerOf(39)),
	}
}

func wrongDraws() []impl.Rat {
	return append(wrongRats(), longDraws()...)
}

func someRPt(r *rand.Rand, limbs int) impl.RPt {
	return rpt(someRat(r, limbs), someRat(r, limbs))
}

func someCurve(r *rand.Rand, n, limbs int) []impl.RPt {
	c := make([]impl.RPt, n)
	for i := range c {
		c[i] = someRPt(r, limbs)
	}
	return c
}

func smallRat(r *rand.Rand, far, den int) impl.Rat {
	return fromPlainRat(big.NewRat(int64(r.IntN(2*far+1)-far), int64(1+r.IntN(den))))
}

// smallCurve has fractions of either sign with few digits, 0 among them.
func smallCurve(r *rand.Rand, n, far, den int) []impl.RPt {
	c := make([]impl.RPt, n)
	for i := range c {
		c[i] = rpt(smallRat(r, far, den), smallRat(r, far, den))
	}
	return c
}

// edgeCurves have each number of points, alike, on a line, at the limit, closed, and there and back.
func edgeCurves() [][]impl.RPt {
	all := [][]impl.RPt{}
	for n := 1; n <= impl.MaxDraws; n++ {
		alike, line, long, noughts := []impl.RPt{}, []impl.RPt{}, []impl.RPt{}, []impl.RPt{}
		for i := range n {
			alike = append(alike, rptFrom("-5/3,7"))
			line = append(line, rpt(whole(impl.BigOf(2*i-3)), whole(impl.BigOf(1-i))))
			long = append(long, rpt(whole(longDraw()), over(positive(top-1<<i, top), longDraw())))
			noughts = append(noughts, rptFrom("0,0"))
		}
		there := append(cloneCurve(line[:(n+1)/2]), backwardsCurve(line[:n/2])...)
		all = append(all, alike, line, long, noughts, there)
	}
	return append(all,
		curveFrom("0,0 2,4 4,0"), curveFrom("0,0 2,4 4,0 0,0"), curveFrom("1/2,-1/3 0,0 -7/5,3 2,2 1/2,-1/3"), curveFrom("0,0 1,0 1,1 0,1 0,0"), curveFrom("-1,-1 3,5 3,-5 -1,1"))
}

// curvesOfAll are edge ones, and some of each number of points.
func curvesOfAll(r *rand.Rand) [][]impl.RPt {
	all := edgeCurves()
	for n := 1; n <= impl.MaxDraws; n++ {
		all = append(all, smallCurve(r, n, 9, 5), smallCurve(r, n, 3, 1), someCurve(r, n, 1), someCurve(r, n, drawLimbs))
	}
	return all
}
