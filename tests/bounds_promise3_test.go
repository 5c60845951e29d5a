package tests

import (
	"math/big"
	"math/rand/v2"
	"testing"

	"loop.example/g00409/impl"
)

// checkHas: promise 3, what comes of places of two spans is in what comes of the spans.
func checkHas(t *testing.T, name string, a, b, told impl.Span, do func(z, x, y *big.Rat) *big.Rat) {
	t.Helper()
	for _, x := range places(a) {
		for _, y := range places(b) {
			z := do(new(big.Rat), x, y)
			if !isWithin(told, z) {
				t.Fatalf("%s %v %v: %v has no %v, which comes of %v and %v", name, a, b, told, z, x, y)
			}
		}
	}
}

// checkHasOne is checkHas for one span.
func checkHasOne(t *testing.T, name string, a, told impl.Span, do func(x *big.Rat) *big.Rat) {
	t.Helper()
	for _, x := range places(a) {
		if z := do(x); !isWithin(told, z) {
			t.Fatalf("%s %v: %v has no %v, which comes of %v", name, a, told, z, x)
		}
	}
}

func plainSquare(x *big.Rat) *big.Rat  { return new(big.Rat).Mul(x, x) }
func plainInverse(x *big.Rat) *big.Rat { return new(big.Rat).Inv(x) }
func plainSame(x *big.Rat) *big.Rat    { return x }
func plainFirst(_, x, _ *big.Rat) *big.Rat {
	return x
}
func plainSecond(_, _, y *big.Rat) *big.Rat {
	return y
}

func checkMooreOfTwo(t *testing.T, a, b impl.Span) {
	t.Helper()
	if s, ok := impl.AddSpan(a, b); ok {
		checkHas(t, "AddSpan", a, b, s, (*big.Rat).Add)
	}
	if s, ok := impl.SubSpan(a, b); ok {
		checkHas(t, "SubSpan", a, b, s, (*big.Rat).Sub)
	}
	if s, ok := impl.MulSpan(a, b); ok {
		checkHas(t, "MulSpan", a, b, s, (*big.Rat).Mul)
	}
	if s, ok := impl.JoinSpan(a, b); ok {
		checkHas(t, "JoinSpan", a, b, s, plainFirst)
		checkHas(t, "JoinSpan", a, b, s, plainSecond)
	}
}

func checkMooreOfOne(t *testing.T, a impl.Span, bits int) {
	t.Helper()
	if s, ok := impl.SquareSpan(a); ok {
		checkHasOne(t, "SquareSpan", a, s, plainSquare)
	}
	if s, ok := impl.InvertSpan(a); ok {
		checkHasOne(t, "InvertSpan", a, s, plainInverse)
	}
	if s, ok := impl.RoundOut(a, bits); ok {
		checkHasOne(t, "RoundOut", a, s, plainSame)
	}
	for _, x := range places(a) {
		w, ok := impl.WidthOf(a)
		if far := new(big.Rat).Sub(plainRat(a.Hi), x); ok && far.Cmp(plainRat(w)) > 0 {
			t.Fatalf("WidthOf %v: %v, but %v is further from Hi", a, w, x)
		}
	}
}

func TestPromise3SmallSpans(t *testing.T) {
	all := spansOf(append(smallRats(t, 2), ratOf(t, 1, 3), ratOf(t, -1, 3)))
	for _, a := range all {
		checkMooreOfOne(t, a, 0)
		checkMooreOfOne(t, a, 3)
		for _, b := range all {
			checkMooreOfTwo(t, a, b)
		}
	}
}

func TestPromise3LongSpans(t *testing.T) {
	r := fixed(37)
	for range 400 {
		a, b := someSpan(r, 19), someSpan(r, 19)
		checkMooreOfTwo(t, a, b)
		checkMooreOfOne(t, a, r.IntN(65))
	}
	for _, a := range spansOf(fewEnds(t)) {
		checkMooreOfOne(t, a, 64)
	}
}

// The root of a square lies in the span that is told of it, be it such a number or not.
func TestPromise3Roots(t *testing.T) {
	r := fixed(38)
	for range 1000 {
		a := someRat(r, 1+r.IntN(19))
		root := over(positive(a.Num.Limbs...), a.Den)
		square, ok := impl.MulRat(root, root)
		if !ok {
			t.Fatalf("the square of %v", root)
		}
		s, ok := impl.RootSpan(square, r.IntN(65))
		if in, is := impl.InSpan(s, root); !ok || !in || !is {
			t.Fatalf("RootSpan %v: %v %v, has no %v", square, s, ok, root)
		}
		back, ok := impl.SquareSpan(s)
		if in, is := impl.InSpan(back, square); !ok || !in || !is {
			t.Fatalf("SquareSpan %v: %v %v, has no %v", s, back, ok, square)
		}
	}
}

// thing is a number, and a span that is known to have it.
type thing struct {
	at    *big.Rat
	known impl.Span
}

// step makes a thing of two by one of the deeds; false where the span is refused.
func (x thing) step(y thing, which int, bits int) (thing, bool) {
	z := new(big.Rat)
	var s impl.Span
	var ok bool
	switch which {
	case 0:
		z.Add(x.at, y.at)
		s, ok = impl.AddSpan(x.known, y.known)
	case 1:
		z.Sub(x.at, y.at)
		s, ok = impl.SubSpan(x.known, y.known)
	case 2:
		z.Mul(x.at, y.at)
		s, ok = impl.MulSpan(x.known, y.known)
	case 3:
		z.Mul(x.at, x.at)
		s, ok = impl.SquareSpan(x.known)
	case 4:
		if s, ok = impl.InvertSpan(x.known); ok {
			z.Inv(x.at)
		}
	case 5:
		z.Set(x.at)
		s, ok = impl.RoundOut(x.known, bits)
	default:
		z.Set(x.at)
		s, ok = impl.JoinSpan(y.known, x.known)
	}
	return thing{z, s}, ok
}

func someThing(r *rand.Rand) thing {
	at := big.NewRat(int64(r.IntN(41)-20), int64(1+r.IntN(9)))
	lo := new(big.Rat).Sub(at, big.NewRat(int64(r.IntN(4)), int64(1+r.IntN(9))))
	hi := new(big.Rat).Add(at, big.NewRat(int64(r.IntN(4)), int64(1+r.IntN(9))))
	return thing{at, plainly(lo, hi)}
}

// What is done one after the other keeps what it began with: the number that is known beside the spans never falls out of them.
func TestPromise3OneAfterTheOther(t *testing.T) {
	r := fixed(39)
	taken := 0
	for range 400 {
		x := someThing(r)
		for range 12 {
			next, ok := x.step(someThing(r), r.IntN(7), r.IntN(65))
			if !ok {
				continue
			}
			taken++
			if x = next; !isWithin(x.known, x.at) {
				t.Fatalf("%v has no %v", x.known, x.at)
			}
			if in, is := impl.InSpan(x.known, fromPlainRat(x.at)); is && !in {
				t.Fatalf("InSpan %v %v: %v", x.known, x.at, in)
			}
		}
	}
	if taken < 2000 {
		t.Error("too few steps were taken:", taken)
	}
}

// Least ones: no end can be nearer, since it comes of places of the spans itself.
func TestPromise3LeastSpans(t *testing.T) {
	reached := func(name string, s impl.Span, all []*big.Rat) {
		t.Helper()
		lo, hi := leastAndGreatest(all...)
		if !sameSpan(s, plainly(lo, hi)) {
			t.Fatalf("%s: %v, but places come to %v and %v alone", name, s, lo, hi)
		}
	}
	all := spansOf(append(smallRats(t, 2), ratOf(t, 1, 3), ratOf(t, -1, 3)))
	for _, a := range all {
		squares := []*big.Rat{}
		for _, x := range places(a) {
			squares = append(squares, plainSquare(x))
		}
		s, _ := impl.SquareSpan(a)
		reached("SquareSpan", s, squares)
		for _, b := range all {
			sums, products := []*big.Rat{}, []*big.Rat{}
			for _, x := range places(a) {
				for _, y := range places(b) {
					sums = append(sums, new(big.Rat).Add(x, y))
					products = append(products, new(big.Rat).Mul(x, y))
				}
			}
			s, _ = impl.AddSpan(a, b)
			reached("AddSpan", s, sums)
			s, _ = impl.MulSpan(a, b)
			reached("MulSpan", s, products)
		}
	}
}
