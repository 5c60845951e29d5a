package tests

import (
	"math/big"
	"math/rand/v2"
	"testing"

	"loop.example/g00409/impl"
)

// mostHalves is how often RefineRoot halves at most.
const mostHalves = 24

func plainMiddle(lo, hi *big.Rat) *big.Rat {
	mid := new(big.Rat).Add(lo, hi)
	return mid.Quo(mid, big.NewRat(2, 1))
}

func plainFloor(x *big.Rat) *big.Int {
	return new(big.Int).Div(x.Num(), x.Denom())
}

func isPlainPlace(x *big.Rat) bool {
	return x.Num().BitLen() <= 16*placeLimbs && x.Denom().BitLen() <= 16*placeLimbs
}

// onceUpTo counts the roots above a and at most b of a polynomial that has each once, by signs of coefficients alone.
func (p plainPoly) onceUpTo(a, b *big.Rat) int {
	if a.Cmp(b) >= 0 {
		return 0
	}
	count := p.onceWithin(a, b)
	if p.at(b).Sign() == 0 {
		count++
	}
	return count
}

// plainRoot is one root between two places, which is only ever found by halves; the program does so where it is asked for halves alone.
type plainRoot struct {
	once   plainPoly
	lo, hi *big.Rat
}

func plainRootIn(p []impl.Rat, s impl.Span) plainRoot {
	return plainRoot{plainCoefs(p).squareFree(), plainRat(s.Lo), plainRat(s.Hi)}
}

func (x plainRoot) isAlone() bool {
	if x.isPlaced() {
		return x.once.at(x.lo).Sign() == 0
	}
	return x.once.onceUpTo(x.lo, x.hi) == 1
}

// half goes by the sign at the middle alone: from the root on up to hi there is but one.
func (x plainRoot) half() plainRoot {
	if x.isPlaced() {
		return x
	}
	mid := plainMiddle(x.lo, x.hi)
	last, here := x.once.at(x.hi).Sign(), x.once.at(mid).Sign()
	if last != 0 && (here == 0 || here == last) {
		return plainRoot{x.once, x.lo, mid}
	}
	return plainRoot{x.once, mid, x.hi}
}

func (x plainRoot) span() impl.Span {
	return plainly(x.lo, x.hi)
}

// isOf is whether q has the root, too.
func (x plainRoot) isOf(q plainPoly) bool {
	both := plainRoot{x.once.common(q), x.lo, x.hi}
	return len(both.once) > 1 && both.isAlone()
}

// touches is whether q has a root from lo to hi, ends among it.
func (x plainRoot) touches(q plainPoly) bool {
	return q.at(x.lo).Sign() == 0 || q.onceUpTo(x.lo, x.hi) > 0
}

// signOf halves till q has no root where x may be.
func (x plainRoot) signOf(q plainPoly) int {
	if x.isOf(q) {
		return 0
	}
	// To ask for roots costs far more than a half.
	for once := q.squareFree(); x.touches(once); {
		for range 8 {
			x = x.half()
		}
	}
	return q.at(x.hi).Sign()
}

func (x plainRoot) isPlaced() bool {
	return x.lo.Cmp(x.hi) == 0
}

// isWithin is whether lo and hi have a place between them, and that is x.
func (x plainRoot) isWithin(y plainRoot) bool {
	return y.lo.Cmp(x.lo) < 0 && x.lo.Cmp(y.hi) < 0 && y.once.at(x.lo).Sign() == 0
}

// isRoot is whether both are one: a root of both polynomials between the ends of both spans can be no other.
func (x plainRoot) isRoot(y plainRoot) bool {
	x, y = x.placed(), y.placed()
	switch {
	case x.isPlaced() && y.isPlaced():
		return x.lo.Cmp(y.lo) == 0
	case x.isPlaced():
		return x.isWithin(y)
	case y.isPlaced():
		return y.isWithin(x)
	}
	_, lo := leastAndGreatest(x.lo, y.lo)
	hi, _ := leastAndGreatest(x.hi, y.hi)
	both := x.once.common(y.once)
	return len(both) > 1 && lo.Cmp(hi) < 0 && both.onceWithin(lo, hi) > 0
}

// against halves both till they lie apart.
func (x plainRoot) against(y plainRoot) int {
	if x.isRoot(y) {
		return 0
	}
	for {
		x, y = x.placed(), y.placed()
		switch {
		case x.hi.Cmp(y.lo) <= 0:
			return -1
		case y.hi.Cmp(x.lo) <= 0:
			return 1
		}
		x, y = x.half(), y.half()
	}
}

// placed is the root alone, where it is at Hi.
func (x plainRoot) placed() plainRoot {
	if x.once.at(x.hi).Sign() == 0 {
		return plainRoot{x.once, x.hi, x.hi}
	}
	return x
}

func (x plainRoot) floor() *big.Int {
	x = x.placed()
	for new(big.Rat).Sub(x.hi, x.lo).Cmp(big.NewRat(1, 1)) >= 0 {
		x = x.half().placed()
	}
	last := new(big.Rat).SetInt(plainFloor(x.hi))
	if x.lo.Cmp(last) < 0 && x.once.onceUpTo(x.lo, last) == 1 && x.once.at(last).Sign() != 0 {
		return plainFloor(x.lo)
	}
	return last.Num()
}

// plainSpans are those of all roots above lo and at most hi; it answers whether all middles are places, and how many bits the longest Den of them has.
func (p plainPoly) plainSpans(lo, hi *big.Rat) ([]impl.Span, bool, int) {
	switch p.onceUpTo(lo, hi) {
	case 0:
		return nil, true, 0
	case 1:
		return []impl.Span{plainly(lo, hi)}, true, 0
	}
	mid := plainMiddle(lo, hi)
	if !isPlainPlace(mid) {
		return nil, false, mid.Denom().BitLen()
	}
	first, firstTold, firstBits := p.plainSpans(lo, mid)
	second, secondTold, secondBits := p.plainSpans(mid, hi)
	return append(first, second...), firstTold && secondTold, max(mid.Denom().BitLen(), firstBits, secondBits)
}

// wantSpans answers how many bits the longest Den of a middle has, and whether all were told.
func wantSpans(t *testing.T, p []impl.Rat) (int, bool) {
	t.Helper()
	bound, _ := impl.RootBound(p)
	hi := plainRat(bound)
	want, wantTold, bits := plainCoefs(p).squareFree().plainSpans(new(big.Rat).Neg(hi), hi)
	if !wantTold {
		want = nil
	}
	spans, ok := impl.IsolateRoots(p)
	if ok != wantTold || len(spans) != len(want) {
		t.Fatalf("IsolateRoots %v: %v %v, want %v %v", p, spans, ok, want, wantTold)
	}
	for i, s := range spans {
		if !sameSpan(s, want[i]) {
			t.Fatalf("IsolateRoots %v: %v, want %v at %d", p, spans, want[i], i)
		}
	}
	return bits, ok
}

// isolated are the spans of p, which must be told.
func isolated(t *testing.T, p []impl.Rat) []impl.Span {
	t.Helper()
	spans, ok := impl.IsolateRoots(p)
	if !ok {
		t.Fatalf("IsolateRoots %v: refused", p)
	}
	return spans
}

func refined(t *testing.T, p []impl.Rat, s impl.Span, times int) impl.Span {
	t.Helper()
	near, ok := impl.RefineRoot(p, s, times)
	if !ok {
		t.Fatalf("RefineRoot %v %v %d: refused", p, s, times)
	}
	return near
}

// onePlace wants x to be good.
func onePlace(x impl.Rat) impl.Span {
	return between(x, cloneRat(x))
}

// mignotte has two roots near 1 divided by u that are nearer to each other the greater u is, and two far away; all four coefficients that are not 0 have one limb.
func mignotte(u int) []impl.Rat {
	one := positive(1)
	return []impl.Rat{over(negative(1), positive(u)), whole(positive(2)), whole(negative(u)), whole(impl.Big{}), over(one, positive(u))}
}

// someSpanOf is one of the isolating spans of p made a little nearer, or one of some places near its roots, which is seldom so.
func someSpanOf(t *testing.T, r *rand.Rand, p []impl.Rat) impl.Span {
	t.Helper()
	spans, _ := impl.IsolateRoots(p)
	if len(spans) == 0 || r.IntN(3) == 0 {
		return inOrder(somePlace(t, r), somePlace(t, r))
	}
	near, ok := impl.RefineRoot(p, spans[r.IntN(len(spans))], r.IntN(12))
	if !ok {
		t.Fatalf("RefineRoot %v %v: refused", p, spans)
	}
	return near
}
