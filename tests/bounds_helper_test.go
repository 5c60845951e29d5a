package tests

import (
	"math/big"
	"math/rand/v2"
	"testing"

	"loop.example/g00409/impl"
)

// between puts two fractions in one span as they are, good or not.
func between(lo, hi impl.Rat) impl.Span {
	return impl.Span{Lo: lo, Hi: hi}
}

func sameSpan(a, b impl.Span) bool {
	return sameRat(a.Lo, b.Lo) && sameRat(a.Hi, b.Hi)
}

// inOrder makes a good span of two good fractions.
func inOrder(a, b impl.Rat) impl.Span {
	if plainRat(a).Cmp(plainRat(b)) > 0 {
		return between(b, a)
	}
	return between(a, b)
}

// spansOf are all good spans with ends out of those given, each of one place among them.
func spansOf(ends []impl.Rat) []impl.Span {
	all := []impl.Span{}
	for i, a := range ends {
		for _, b := range ends[i:] {
			all = append(all, inOrder(a, b))
		}
	}
	return all
}

// fewEnds are on both sides of 0, some of them nearer to it than 1, and some at the limit.
func fewEnds(t *testing.T) []impl.Rat {
	t.Helper()
	return []impl.Rat{
		ratOf(t, 0, 1), ratOf(t, 1, 1), ratOf(t, -1, 1), ratOf(t, 2, 3), ratOf(t, -5, 2),
		over(positive(1), most()), over(negative(1), powerOf(39)), whole(most()), whole(turned(powerOf(39))), over(powerOf(39), most()),
	}
}

func plainly(lo, hi *big.Rat) impl.Span {
	return between(fromPlainRat(lo), fromPlainRat(hi))
}

func someSpan(r *rand.Rand, n int) impl.Span {
	a := someRat(r, n)
	if r.IntN(8) == 0 {
		return between(a, a)
	}
	return inOrder(a, someRat(r, n))
}

func leastAndGreatest(l ...*big.Rat) (*big.Rat, *big.Rat) {
	lo, hi := l[0], l[0]
	for _, a := range l {
		if a.Cmp(lo) < 0 {
			lo = a
		}
		if a.Cmp(hi) > 0 {
			hi = a
		}
	}
	return lo, hi
}

func fitsPlain(r *big.Rat) bool {
	a := fromPlainRat(r)
	return max(len(a.Num.Limbs), len(a.Den.Limbs)) <= impl.MaxLimbs
}

// wantSpan wants the zero answer of both ends where one of them does not fit.
func wantSpan(t *testing.T, what string, s impl.Span, ok bool, lo, hi *big.Rat) {
	t.Helper()
	if !fitsPlain(lo) || !fitsPlain(hi) {
		if ok || !sameSpan(s, impl.Span{}) {
			t.Fatalf("%s: %v %v, want the zero answer: %v to %v does not fit", what, s, ok, lo, hi)
		}
		return
	}
	if !ok || !sameSpan(s, plainly(lo, hi)) {
		t.Fatalf("%s: %v %v, want %v", what, s, ok, plainly(lo, hi))
	}
	if !impl.GoodSpan(s) {
		t.Fatalf("%s: %v is not good", what, s)
	}
}

func spanText(t *testing.T, s impl.Span) string {
	t.Helper()
	return ratText(t, s.Lo) + " " + ratText(t, s.Hi)
}

// places are some of what a span bounds: its ends, what lies between them, and 0, where it does.
func places(s impl.Span) []*big.Rat {
	lo, hi := plainRat(s.Lo), plainRat(s.Hi)
	all := []*big.Rat{lo, hi}
	width := new(big.Rat).Sub(hi, lo)
	if width.Sign() == 0 {
		return all
	}
	for _, part := range []*big.Rat{big.NewRat(1, 2), big.NewRat(1, 7)} {
		all = append(all, new(big.Rat).Add(lo, new(big.Rat).Mul(width, part)))
	}
	if lo.Sign() < 0 && hi.Sign() > 0 {
		all = append(all, new(big.Rat))
	}
	return all
}

func isWithin(s impl.Span, x *big.Rat) bool {
	return plainRat(s.Lo).Cmp(x) <= 0 && x.Cmp(plainRat(s.Hi)) <= 0
}

// plainStep is 1 divided by 2 to the bits.
func plainStep(bits int) *big.Rat {
	return new(big.Rat).SetFrac(big.NewInt(1), new(big.Int).Lsh(big.NewInt(1), uint(bits)))
}
