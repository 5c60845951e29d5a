package tests

import (
	"math/big"
	"math/rand/v2"
	"slices"
	"testing"

	"loop.example/g00409/impl"
)

// ringLimbs is how many limbs Num and Den of a ring's fractions may have; those of a cut may have as many as those of a curve.
const ringLimbs = 8

// plainPt is a point of the library's own fractions.
type plainPt struct{ x, y *big.Rat }

func plainPts(l []impl.RPt) []plainPt {
	all := make([]plainPt, len(l))
	for i, p := range l {
		all[i] = plainPt{plainRat(p.X), plainRat(p.Y)}
	}
	return all
}

func fromPlainPts(l []plainPt) []impl.RPt {
	all := make([]impl.RPt, len(l))
	for i, p := range l {
		all[i] = rpt(fromPlainRat(p.x), fromPlainRat(p.y))
	}
	return all
}

// crossOfPts is twice the area of a triangle with 0, 0.
func crossOfPts(a, b plainPt) *big.Rat {
	cross := new(big.Rat).Mul(a.x, b.y)
	return cross.Sub(cross, new(big.Rat).Mul(b.x, a.y))
}

// onLine tells the Y of the line through both points at an X, by the line's equation.
func onLine(a, b plainPt, x *big.Rat) *big.Rat {
	y := new(big.Rat).Mul(x, new(big.Rat).Sub(b.y, a.y))
	y.Add(y, crossOfPts(b, a))
	return y.Quo(y, new(big.Rat).Sub(b.x, a.x))
}

// A look changes points such that a cut by X with what is at most it is what is asked for. It is undone by looking again.
type look struct{ byY, high bool }

func (s look) at(x *big.Rat) *big.Rat {
	if s.high {
		return new(big.Rat).Neg(x)
	}
	return x
}

func (s look) into(p plainPt) plainPt {
	if s.byY {
		p = plainPt{p.y, p.x}
	}
	return plainPt{s.at(p.x), p.y}
}

func (s look) back(p plainPt) plainPt {
	p = plainPt{s.at(p.x), p.y}
	if s.byY {
		return plainPt{p.y, p.x}
	}
	return p
}

// sidesOfCuts are both sides of a cut by X, and of one by Y.
func sidesOfCuts() []look {
	return []look{{false, false}, {false, true}, {true, false}, {true, true}}
}

func (s look) clip(l []impl.RPt, at impl.Rat) ([]impl.RPt, bool) {
	if s.high {
		return impl.ClipHigh(l, s.byY, at)
	}
	return impl.ClipLow(l, s.byY, at)
}

// plainClip is what a side has of a ring, as the document says it, however long it is.
func (s look) plainClip(l []impl.RPt, at impl.Rat) []impl.RPt {
	x := s.at(plainRat(at))
	all, told := plainPts(l), []plainPt{}
	for i, p := range all {
		a, b := s.into(all[(i+len(all)-1)%len(all)]), s.into(p)
		inA, inB := a.x.Cmp(x) <= 0, b.x.Cmp(x) <= 0
		if inA && !inB || inB && !inA {
			told = append(told, s.back(plainPt{x, onLine(a, b, x)}))
		}
		if inB {
			told = append(told, p)
		}
	}
	return fromPlainPts(told)
}

// plainClipBox tells none where a point on the way is too long; the points are counted in the end alone.
func plainClipBox(l []impl.RPt, lo, hi impl.RPt) ([]impl.RPt, bool) {
	for i, at := range []impl.Rat{lo.X, hi.X, lo.Y, hi.Y} {
		l = look{i > 1, i%2 == 0}.plainClip(l, at)
		if limbsIn(l...) > ringLimbs {
			return nil, false
		}
	}
	return l, len(l) <= impl.MaxRing
}

// plainRingArea sums up triangles with the first point.
func plainRingArea(l []impl.RPt) *big.Rat {
	all, sum := plainPts(l), new(big.Rat)
	for i := 2; i < len(all); i++ {
		a, b, c := all[0], all[i-1], all[i]
		one := plainPt{new(big.Rat).Sub(b.x, a.x), new(big.Rat).Sub(b.y, a.y)}
		other := plainPt{new(big.Rat).Sub(c.x, a.x), new(big.Rat).Sub(c.y, a.y)}
		sum.Add(sum, crossOfPts(one, other))
	}
	return sum.Mul(sum, big.NewRat(1, 2))
}

// plainAreaOf is the area on a side, by what lies between each segment and the line where Y is 0, as far as the segment is on that side: no point of a cut is put to the ring.
func (s look) plainAreaOf(l []impl.RPt, at impl.Rat) *big.Rat {
	x := s.at(plainRat(at))
	all, sum := plainPts(l), new(big.Rat)
	for i := range all {
		a, b := s.into(all[i]), s.into(all[(i+1)%len(all)])
		from, to, sign := a, b, int64(-1)
		if a.x.Cmp(b.x) > 0 {
			from, to, sign = b, a, 1
		}
		end := to.x
		if x.Cmp(end) < 0 {
			end = x
		}
		if from.x.Cmp(end) >= 0 {
			continue
		}
		part := new(big.Rat).Add(from.y, onLine(from, to, end))
		part.Mul(part, new(big.Rat).Sub(end, from.x))
		sum.Add(sum, part.Mul(part, big.NewRat(sign, 2)))
	}
	// X and Y changed, or one of them turned, is the other way round.
	if s.byY != s.high {
		sum.Neg(sum)
	}
	return sum
}

func isPlainRing(l []impl.RPt) bool {
	return len(l) <= impl.MaxRing && limbsIn(l...) <= ringLimbs
}

// wantRing wants the zero answer where what should be told is no ring; it answers whether it is told.
func wantRing(t *testing.T, what string, l []impl.RPt, ok bool, want []impl.RPt) bool {
	t.Helper()
	if !isPlainRing(want) {
		if ok || len(l) > 0 {
			t.Fatalf("%s: %v %v, want the zero answer", what, l, ok)
		}
		return false
	}
	wantCurve(t, what, l, ok, want)
	if !impl.GoodRing(l) {
		t.Fatalf("%s: %v is no ring", what, l)
	}
	return true
}

func (s look) name() string {
	name := "ClipLow"
	if s.high {
		name = "ClipHigh"
	}
	if s.byY {
		return name + " by Y "
	}
	return name + " by X "
}

func checkSide(t *testing.T, s look, l []impl.RPt, at impl.Rat) bool {
	t.Helper()
	part, ok := s.clip(l, at)
	return wantRing(t, s.name()+curveText(t, l)+" at "+ratText(t, at), part, ok, s.plainClip(l, at))
}

// checkSides is checkSide for both sides, by X and by Y; it answers how many are told.
func checkSides(t *testing.T, l []impl.RPt, at impl.Rat) int {
	t.Helper()
	many := 0
	for _, s := range sidesOfCuts() {
		if checkSide(t, s, l, at) {
			many++
		}
	}
	return many
}

func checkBox(t *testing.T, l []impl.RPt, lo, hi impl.RPt) bool {
	t.Helper()
	part, ok := impl.ClipBox(l, lo, hi)
	want, told := plainClipBox(l, lo, hi)
	what := "ClipBox " + curveText(t, l) + " from " + curveText(t, []impl.RPt{lo}) + " to " + curveText(t, []impl.RPt{hi})
	if !told {
		if ok || len(part) > 0 {
			t.Fatalf("%s: %v %v, want the zero answer", what, part, ok)
		}
		return false
	}
	return wantRing(t, what, part, ok, want)
}

func checkArea(t *testing.T, l []impl.RPt) {
	t.Helper()
	area, ok := impl.RingArea(l)
	wantRat(t, "RingArea "+curveText(t, l), area, ok, plainRingArea(l))
}

// areaPlainly wants the area to be told.
func areaPlainly(t *testing.T, l []impl.RPt) *big.Rat {
	t.Helper()
	area, ok := impl.RingArea(l)
	if !ok {
		t.Fatalf("RingArea %v: refused", l)
	}
	return plainRat(area)
}

// ringFrom has the points of a way, right or not.
func ringFrom(l []impl.Pt) []impl.RPt {
	all := make([]impl.RPt, len(l))
	for i, p := range l {
		all[i] = rpt(whole(impl.BigOf(p.X)), whole(impl.BigOf(p.Y)))
	}
	return all
}

// zigzag goes upward, by turns at X -1 and 1, from Y 0 on.
func zigzag(n int) []impl.RPt {
	l := make([]impl.Pt, n)
	for i := range l {
		l[i] = pt(2*(i%2)-1, i)
	}
	return ringFrom(l)
}

// spikes goes upward at X 0, but for so many points, each with others at X 0 ahead and behind, that are at X 2.
func spikes(n, many int) []impl.RPt {
	l := make([]impl.Pt, n)
	for i := range l {
		l[i] = pt(0, i)
		if i%2 == 1 && i < 2*many {
			l[i] = pt(2, i)
		}
	}
	return ringFrom(l)
}

// flatSpike goes upward at X 0, and from the second point on so many times at X 2.
func flatSpike(n, many int) []impl.RPt {
	l := make([]impl.Pt, n)
	for i := range l {
		l[i] = pt(0, i)
		if i > 0 && i <= many {
			l[i] = pt(2, i)
		}
	}
	return ringFrom(l)
}

// longRingBig has ringLimbs limbs: one more would be one limb more.
func longRingBig() impl.Big {
	return positive(limbs(ringLimbs, top)...)
}

// edgeRingRats meet the limit in Num, in Den and in both, with both signs.
func edgeRingRats() []impl.Rat {
	long := longRingBig()
	far := []impl.Rat{
		whole(long), whole(powerOf(ringLimbs - 1)), over(positive(1), long), over(positive(1), powerOf(ringLimbs-1)),
		over(long, powerOf(ringLimbs-1)), over(powerOf(ringLimbs-1), long), over(positive(append([]int{top - 1}, limbs(ringLimbs-1, top)...)...), long),
	}
	all := []impl.Rat{whole(impl.Big{})}
	for _, a := range far {
		all = append(all, a, turnedRat(a))
	}
	return all
}

// longRingRats are no fractions of a ring, each being one limb too long, or more.
func longRingRats() []impl.Rat {
	one, beyond := positive(1), powerOf(ringLimbs)
	odd := positive(append(append([]int{1}, limbs(ringLimbs-1, 0)...), 1)...)
	return []impl.Rat{
		whole(beyond), whole(turned(beyond)), whole(odd), over(one, beyond), over(negative(1), beyond), over(beyond, longRingBig()), over(longRingBig(), beyond), over(beyond, odd),
		whole(powerOf(ringLimbs + 1)), over(negative(3), powerOf(20)), whole(most()), over(one, most()), over(most(), powerOf(39)),
	}
}

func wrongRingRats() []impl.Rat {
	return append(wrongRats(), longRingRats()...)
}

// ringPrimes are the greatest ones below 2 to the bits.
func ringPrimes(n int, bits uint) []impl.Big {
	all := []impl.Big{}
	for p := new(big.Int).Lsh(big.NewInt(1), bits); len(all) < n; {
		if p.Sub(p, big.NewInt(1)); p.ProbablyPrime(0) {
			all = append(all, fromPlain(p))
		}
	}
	return all
}

// longestRing has as long fractions as may be: no two have a divisor in common, Num or Den.
func longestRing(n int) []impl.RPt {
	primes := ringPrimes(4*n, 16*ringLimbs)
	l := make([]impl.RPt, n)
	for i := range l {
		p := primes[4*i:]
		l[i] = rpt(over(p[0], p[1]), over(turned(p[2]), p[3]))
		if i%2 == 1 {
			l[i] = rpt(turnedRat(l[i].X), l[i].Y)
		}
	}
	return l
}

// edgeRings have few points and as many as may be, alike, on a line, at the limit, crossing themselves, and there and back, round to either side.
func edgeRings() [][]impl.RPt {
	all := [][]impl.RPt{
		nil, {}, curveFrom("0,0"), curveFrom("1/2,-3"), curveFrom("-1,2 3,-4"), curveFrom("1/2,1/2 1/2,1/2"), curveFrom("0,0 0,7/3"),
		curveFrom("0,0 4,0 4,4 0,4"), curveFrom("0,0 4,0 2,4"), curveFrom("-1/2,-1/2 1/2,-1/2 0,3/2"), curveFrom("-7/3,1/5 2/7,-9/4 5/2,3 -1/6,1/6"),
		curveFrom("0,0 2,2 2,0 0,2"), curveFrom("0,3 6,3 1,0 3,5 5,0"), curveFrom("0,0 4,0 0,4 0,0 4,0 0,4"), curveFrom("-1,-1 1,1 3,3"), curveFrom("1/2,0 1/2,5 1/2,-3 1/2,1/7"),
		curveFrom("2,-3 2,-3 2,-3 2,-3"), curveFrom("0,0 1,2 3,1/2 1,2"), curveFrom("0,0 3,0 3,3 3,3 0,3 0,3"), curveFrom("0,0 2,0 2,2 1,2 1,1 2,1 2,3 0,3"),
		zigzag(3), zigzag(26), zigzag(impl.MaxRing), spikes(36, 4), spikes(impl.MaxRing, 0), flatSpike(impl.MaxRing, 38), longestRing(3),
	}
	for _, a := range edgeRingRats() {
		all = append(all, []impl.RPt{rpt(a, a), rptFrom("1,-2"), rptFrom("-3/2,1/3")})
	}
	for _, l := range simpleWays() {
		all = append(all, ringFrom(l))
	}
	for i, l := range slices.Clone(all) {
		if i%3 == 0 {
			all = append(all, backwardsCurve(l))
		}
	}
	return all
}

// ringsOfAll are edge ones, and some with small and with long fractions of either sign.
func ringsOfAll(r *rand.Rand) [][]impl.RPt {
	all := edgeRings()
	for range 12 {
		all = append(all, smallCurve(r, r.IntN(9), 5, 4), smallCurve(r, r.IntN(27), 3, 2), smallCurve(r, r.IntN(impl.MaxRing+1), 9, 3), someCurve(r, r.IntN(5), 1+r.IntN(ringLimbs)))
	}
	return all
}

// cutsAmong are those that the coordinates of a ring have, as far as they may be cuts, one between each two next to each other, and some beyond all.
func cutsAmong(l []impl.RPt) []impl.Rat {
	all := []*big.Rat{big.NewRat(-4000, 1), big.NewRat(4000, 1), new(big.Rat), big.NewRat(1, 3)}
	for i, p := range plainPts(l) {
		if i < 5 {
			next := plainPts(l)[(i+1)%len(l)]
			all = append(all, p.x, p.y, new(big.Rat).Mul(new(big.Rat).Add(p.x, next.x), big.NewRat(1, 2)))
		}
	}
	cuts := []impl.Rat{}
	for _, x := range all {
		if isPlace(x) {
			cuts = append(cuts, fromPlainRat(x))
		}
	}
	return cuts
}
