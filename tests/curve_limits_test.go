package tests

import (
	"math/big"
	"slices"
	"testing"

	"loop.example/g00409/impl"
)

// longPrimes are the greatest ones of drawLimbs limbs, so that what is made of them is never shortened.
func longPrimes(n int) []*big.Int {
	all := []*big.Int{}
	for p := big.NewInt(1<<32 - 1); len(all) < n; p = new(big.Int).Sub(p, big.NewInt(2)) {
		if p.ProbablyPrime(0) {
			all = append(all, p)
		}
	}
	return all
}

// longestCurve has as long fractions as may be: no two have a divisor in common, Num or Den.
func longestCurve(n int) []impl.RPt {
	primes := longPrimes(4 * n)
	c := make([]impl.RPt, n)
	for i := range c {
		p := primes[4*i:]
		c[i] = rpt(over(fromPlain(p[0]), fromPlain(p[1])), over(turned(fromPlain(p[2])), fromPlain(p[3])))
	}
	return c
}

func limbsIn(c ...impl.RPt) int {
	longest := 0
	for _, p := range c {
		longest = max(longest, len(p.X.Num.Limbs), len(p.X.Den.Limbs), len(p.Y.Num.Limbs), len(p.Y.Den.Limbs))
	}
	return longest
}

func TestCurveLimitsOfWhatIsGiven(t *testing.T) {
	for _, a := range edgeDraws() {
		checkGiven(t, a, true)
	}
	for _, a := range longDraws() {
		checkGiven(t, a, false)
	}
}

// checkGiven: whether a fraction may be given, at each place of each curve, and as t.
func checkGiven(t *testing.T, a impl.Rat, good bool) {
	t.Helper()
	fine := rptFrom("1/2,-3")
	for n := 1; n <= impl.MaxDraws; n++ {
		for at := range n {
			for _, p := range []impl.RPt{rpt(a, fine.Y), rpt(fine.X, a), rpt(a, a)} {
				c := slices.Repeat([]impl.RPt{fine}, n)
				c[at] = p
				wantTaken(t, good, impl.GoodCurve, c)
				wantTaken(t, good, impl.ReverseCurve, c)
				wantTaken(t, good, impl.PowersOf, c)
				wantTaken(t, good, impl.SweepOf, c)
				wantTaken(t, good, impl.CurveAt, c, ratFrom("1/2"))
				wantTaken(t, good, impl.SplitCurve, c, ratFrom("1"))
			}
		}
		c := slices.Repeat([]impl.RPt{fine}, n)
		wantTaken(t, good, impl.CurveAt, c, a)
		wantTaken(t, good, impl.SplitCurve, c, a)
	}
	for _, p := range []impl.RPt{rpt(a, fine.Y), rpt(fine.X, a)} {
		wantTaken(t, good, impl.MixPt, p, fine, ratFrom("1/2"))
		wantTaken(t, good, impl.MixPt, fine, p, ratFrom("0"))
	}
	wantTaken(t, good, impl.MixPt, fine, fine, a)
	wantTaken(t, good, impl.RaiseCurve, []impl.RPt{rpt(a, a)})
}

// wantTaken wants the last answer, which says whether the arguments are as said.
func wantTaken(t *testing.T, want bool, f any, args ...any) {
	t.Helper()
	if x := watch(t, f, args...); x[len(x)-1].Bool() != want {
		t.Errorf("%s %v: %v", nameOf(f), args, x)
	}
}

// Of the longest curves the longest answers, far beyond the limit of what is given, and all within MaxLimbs: they are told.
func TestLongestAnswersAreTold(t *testing.T) {
	primes := longPrimes(4*impl.MaxDraws + 2)
	n, d := fromPlain(primes[4*impl.MaxDraws]), fromPlain(primes[4*impl.MaxDraws+1])
	ats := []impl.Rat{over(n, d), over(turned(n), d), over(d, n), whole(longDraw()), over(negative(1), longDraw())}
	for many := 1; many <= impl.MaxDraws; many++ {
		c := longestCurve(many)
		checkCurve(t, c, ats...)
		place, _ := impl.CurveAt(c, ats[0])
		powers, _ := impl.PowersOf(c)
		// Each point but the first one puts its own Den and that of t to it.
		if len(place.X.Den.Limbs) != drawLimbs*(2*many-1) || limbsIn(powers...) < drawLimbs*many {
			t.Errorf("of %d points the place has %d limbs, the powers have %d", many, limbsIn(place), limbsIn(powers...))
		}
		if sweep, _ := impl.SweepOf(c); many > 1 && len(sweep.Den.Limbs) < 2*drawLimbs*many {
			t.Errorf("of %d points the sweep has %d limbs", many, len(sweep.Den.Limbs))
		}
	}
	c := longestCurve(2)
	mixed, ok := impl.MixPt(c[0], c[1], ats[0])
	if !ok || limbsIn(mixed) != 3*drawLimbs {
		t.Errorf("MixPt: %v %v", mixed, ok)
	}
}

// Rows on the way have more limbs than points may be given with; what is left in the end has one.
func TestCurveAtPartsLongerThanWhatIsTold(t *testing.T) {
	p := fromPlain(longPrimes(1)[0])
	a := rpt(over(positive(1), p), over(negative(1), p))
	b := rpt(turnedRat(a.X), turnedRat(a.Y))
	for _, c := range [][]impl.RPt{{a, b}, {a, rptFrom("0,0"), b}, {a, b, a, b}, {a, a, rptFrom("0,0"), b, b}} {
		place, ok := impl.CurveAt(c, ratFrom("1/2"))
		wantRPt(t, "CurveAt", place, ok, rptFrom("0,0"))
		checkAt(t, c, ratFrom("1/3"))
	}
}

type splitLimit struct {
	why   string
	curve []impl.RPt
	at    string
	told  bool
}

// splitLimits have what is told in X; all of them also hold with X and Y changed.
func splitLimits() []splitLimit {
	half, nearHalf := "2147483648", "2147483647"
	return []splitLimit{
		{"Num just good", curveFrom("0,0 " + nearHalf + ",0"), "2", true},
		{"Num a limb too long", curveFrom("0,0 " + half + ",0"), "2", false},
		{"Num just good, below 0", curveFrom("0,0 " + nearHalf + ",0"), "-2", true},
		{"Num a limb too long, below 0", curveFrom("0,0 " + half + ",0"), "-2", false},
		{"Den just good", curveFrom("0,0 1/" + nearHalf + ",0"), "1/2", true},
		{"Den a limb too long", curveFrom("0,0 1/" + half + ",0"), "1/2", false},
		{"Den a limb too long, but for what is shortened", curveFrom("0,0 2/4294967295,0"), "1/2", true},
		{"the middle just good", curveFrom("0,0 0,0 1/1073741823,0"), "1/2", true},
		{"the middle a limb too long", curveFrom("0,0 0,0 1/1073741824,0"), "1/2", false},
		{"the first part alone too long", curveFrom("0,0 " + half + ",0 " + half + ",0"), "2", false},
		{"the first part just good", curveFrom("0,0 " + nearHalf + ",0 " + half + ",0"), "2", true},
		{"the last part alone too long", curveFrom(half + ",0 " + half + ",0 0,0"), "-1", false},
		{"the last part just good", curveFrom(half + ",0 " + nearHalf + ",0 0,0"), "-1", true},
		{"both too long but for the place, where they meet", curveFrom("1/" + half + ",0 0,0 -1/" + half + ",0"), "1/2", false},
		// A point of the second row, between its first and last ones, has a Den of 3 limbs, but is not told.
		{"too long between the ends of a row", curveFrom("0,0 7/4000000028,0 4/3000000021,0 0,0"), "4", true},
		{"too long at the beginning of a row", curveFrom("7/4000000028,0 4/3000000021,0 0,0"), "4", false},
		{"too long at the end of a row", curveFrom("0,0 7/4000000028,0 4/3000000021,0"), "4", false},
		{"all at the limit, at 1", longestCurve(impl.MaxDraws), "1", true},
		{"all at the limit, at 0", longestCurve(impl.MaxDraws), "0", true},
		{"all at the limit, in the middle", longestCurve(impl.MaxDraws), "1/2", false},
		{"one point at the limit", longestCurve(1), "99/98", true},
	}
}

func changedXY(c []impl.RPt) []impl.RPt {
	changed := cloneCurve(c)
	for i, p := range changed {
		changed[i] = rpt(p.Y, p.X)
	}
	return changed
}

func TestSplitLimitMetAndGoneBeyond(t *testing.T) {
	for _, row := range splitLimits() {
		for _, c := range [][]impl.RPt{row.curve, changedXY(row.curve)} {
			if told := checkSplitCurve(t, c, ratFrom(row.at)); told != row.told {
				t.Errorf("%s: SplitCurve %v at %s: %v", row.why, c, row.at, told)
			}
			rest := fromPlainRat(restOf(plainRat(ratFrom(row.at))))
			if told := checkSplitCurve(t, backwardsCurve(c), rest); told != row.told {
				t.Errorf("%s, the other way round: %v", row.why, told)
			}
		}
	}
}

// What the rows above speak of: one point on the way is no curve's, and all that are told are.
func TestSplitLimitBetweenTheEndsOfARow(t *testing.T) {
	c := curveFrom("7/4000000028,0 4/3000000021,0")
	p, ok := impl.MixPt(c[0], c[1], ratFrom("4"))
	wantRPt(t, "MixPt", p, ok, rptFrom("1/12000000084,0"))
	if impl.GoodCurve([]impl.RPt{p}) {
		t.Error("it is good")
	}
}

func TestRaiseLimitMetAndGoneBeyond(t *testing.T) {
	half := "2147483648"
	for _, row := range []struct {
		why   string
		curve []impl.RPt
		told  bool
	}{
		{"one point at the limit", longestCurve(1), true},
		{"Num at the limit", curveFrom("4294967295,0 4294967295,0"), true},
		{"Num at the limit on both sides", curveFrom("4294967295,0 -4294967295,0 4294967295,0 -4294967295,0"), true},
		{"Num just good", curveFrom("1431655765,0 1431655765/2,0"), true},
		{"Num a limb too long", curveFrom("1431655765,0 1431655767/2,0"), false},
		{"Num a limb too long, below 0", curveFrom("-1431655765,0 -1431655767/2,0"), false},
		{"Den just good", curveFrom("0,0 1/2147483647,0"), true},
		{"Den a limb too long", curveFrom("0,0 1/" + half + ",0"), false},
		{"Den a limb too long, below 0", curveFrom("-1/" + half + ",0 0,0"), false},
		{"Den a limb too long, but for what is shortened", curveFrom("1/" + half + ",0 1/" + half + ",0"), true},
		{"by 3, just good", curveFrom("0,0 1/1431655765,0 0,0"), true},
		{"by 3, a limb too long", curveFrom("0,0 1/1431655767,0 0,0"), false},
		{"by 3, a limb too long, but for what is shortened", curveFrom("0,0 1/1431655766,0 0,0"), true},
		{"by 4, just good", curveFrom("1/1073741823,0 0,0 0,0 0,0"), true},
		{"by 4, a limb too long", curveFrom("1/1073741824,0 0,0 0,0 0,0"), false},
		{"by 4, a limb too long at the end", curveFrom("0,0 0,0 0,0 1/1073741824,0"), false},
		{"all at the limit", longestCurve(2), false},
		{"a point too many", curveFrom("0,0 0,0 0,0 0,0 0,0"), false},
		{"a point too many, of a line", curveFrom("0,4 1,3 2,2 3,1 4,0"), false},
		{"just as many as may be", curveFrom("0,3 1,2 2,1 3,0"), true},
	} {
		for _, c := range [][]impl.RPt{row.curve, changedXY(row.curve), backwardsCurve(row.curve)} {
			if told := checkRaise(t, c); told != row.told {
				t.Errorf("%s: RaiseCurve %v: %v", row.why, c, told)
			}
		}
	}
}
