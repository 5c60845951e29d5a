package tests

import (
	"testing"

	"loop.example/g00409/impl"
)

// checkMadeUp: promise 4, what divides, times the quotient, and what is left are what was divided. It answers whether all of it was told.
func checkMadeUp(t *testing.T, p, q []impl.Rat) bool {
	t.Helper()
	quotient, rest, ok := impl.DivPoly(p, q)
	if !ok {
		return false
	}
	if len(rest) >= len(q) {
		t.Fatalf("DivPoly %v %v: the rest %v is not shorter than what divides", p, q, rest)
	}
	if back := plainCoefs(q).times(plainCoefs(quotient)).plus(plainCoefs(rest)); !samePoly(back.told(), p) {
		t.Fatalf("DivPoly %v %v: %v and rest %v make up %v", p, q, quotient, rest, back)
	}
	product, fits := impl.MulPoly(q, quotient)
	if !fits {
		return false
	}
	if back, ok := impl.AddPoly(product, rest); !ok || !samePoly(back, p) {
		t.Fatalf("DivPoly %v %v: %v and rest %v make up %v %v", p, q, quotient, rest, back, ok)
	}
	return true
}

// checkDivides wants nothing to be left; the quotient may be too long to be told.
func checkDivides(t *testing.T, p, by []impl.Rat) {
	t.Helper()
	if _, rest := plainCoefs(p).dividedBy(plainCoefs(by)); len(rest) > 0 {
		t.Fatalf("%v does not divide %v: %v is left", by, p, rest)
	}
	if _, rest, ok := impl.DivPoly(p, by); ok && len(rest) > 0 {
		t.Fatalf("DivPoly %v %v: %v is left", p, by, rest)
	}
}

// checkDividesBoth: promise 4, what divides both divides both, and has 1 as its last coefficient.
func checkDividesBoth(t *testing.T, p, q []impl.Rat) bool {
	t.Helper()
	common, ok := impl.GcdPoly(p, q)
	if !ok {
		return false
	}
	if len(p) == 0 && len(q) == 0 {
		if len(common) > 0 {
			t.Fatalf("GcdPoly of two 0: %v", common)
		}
		return true
	}
	if len(common) == 0 || !sameRat(common[len(common)-1], whole(positive(1))) {
		t.Fatalf("GcdPoly %v %v: the last coefficient of %v is not 1", p, q, common)
	}
	checkDivides(t, p, common)
	checkDivides(t, q, common)
	return true
}

func TestPromise4SmallPolys(t *testing.T) {
	all := smallPolys(4)
	for _, p := range all {
		for _, q := range all {
			if len(q) > 0 && !checkMadeUp(t, p, q) {
				t.Fatalf("DivPoly %v %v: refused", p, q)
			}
			if !checkDividesBoth(t, p, q) {
				t.Fatalf("GcdPoly %v %v: refused", p, q)
			}
		}
	}
}

func TestPromise4EdgePolys(t *testing.T) {
	for _, p := range edgePolys(t) {
		for _, q := range edgePolys(t) {
			checkMadeUp(t, p, q)
			checkDividesBoth(t, p, q)
		}
	}
}

func TestPromise4SomePolys(t *testing.T) {
	r := fixed(43)
	told := 0
	for range 400 {
		p, q := somePoly(r, r.IntN(8), 2), smallPoly(r, 1+r.IntN(7), 3)
		if checkMadeUp(t, p, q) {
			told++
		}
		checkDividesBoth(t, p, q)
		checkMadeUp(t, smallPoly(r, 1+r.IntN(7), 1000), p)
	}
	if told < 300 {
		t.Error("too few were told:", told)
	}
}

// What divides both has the most coefficients: all that both were made of is in it.
func TestPromise4CommonPartComesBack(t *testing.T) {
	r := fixed(44)
	told := 0
	for range 400 {
		part, a, b := somePoly(r, 1+r.IntN(4), 1), smallPoly(r, 1+r.IntN(4), 9), smallPoly(r, 1+r.IntN(4), 9)
		p, fits := impl.MulPoly(part, a)
		q, fit := impl.MulPoly(part, b)
		if !fits || !fit || !checkDividesBoth(t, p, q) {
			continue
		}
		told++
		common, _ := impl.GcdPoly(p, q)
		_, rest, ok := impl.DivPoly(common, part)
		if ok && len(rest) > 0 || len(common) < len(part) {
			t.Fatalf("GcdPoly %v %v: %v has not all of %v", p, q, common, part)
		}
		if apart, _ := impl.GcdPoly(a, b); len(apart) == 1 && len(common) != len(part) {
			t.Fatalf("GcdPoly %v %v: %v is more than %v", p, q, common, part)
		}
	}
	if told < 300 {
		t.Error("too few were told:", told)
	}
}

// What has each root once divides what it comes from, and has nothing in common with its own derivative.
func TestPromise4EachRootOnce(t *testing.T) {
	r := fixed(45)
	for range 200 {
		a, b := smallPoly(r, 2+r.IntN(2), 9), smallPoly(r, 1+r.IntN(3), 9)
		square, _ := impl.MulPoly(a, a)
		p, fits := impl.MulPoly(square, b)
		once, ok := impl.SquareFree(p)
		if !fits || !ok {
			t.Fatalf("SquareFree %v: refused", p)
		}
		checkDivides(t, p, once)
		slope, _ := impl.DerivePoly(once)
		if common, ok := impl.GcdPoly(once, slope); !ok || len(common) != 1 {
			t.Fatalf("SquareFree %v: %v has a root twice", p, once)
		}
		if again, ok := impl.SquareFree(once); !ok || !samePoly(again, once) {
			t.Fatalf("SquareFree %v: %v %v", once, again, ok)
		}
	}
}

// A value is what is left when one divides by x less the place; a shifted polynomial tells it at 0, and comes back.
func TestPromise4ValuesAndShifts(t *testing.T) {
	r := fixed(46)
	for range 200 {
		p := smallPoly(r, 1+r.IntN(7), 1000)
		x := ratOf(t, r.IntN(41)-20, 1+r.IntN(9))
		value, ok := impl.EvalPoly(p, x)
		_, rest, is := impl.DivPoly(p, []impl.Rat{turnedRat(x), whole(positive(1))})
		if !ok || !is || len(rest) == 0 && len(value.Num.Limbs) > 0 || len(rest) == 1 && !sameRat(rest[0], value) {
			t.Fatalf("EvalPoly %v %v: %v %v, but %v is left", p, x, value, ok, rest)
		}
		moved, ok := impl.ShiftPoly(p, x)
		if !ok || !sameRat(moved[0], value) {
			t.Fatalf("ShiftPoly %v %v: %v %v, but the value is %v", p, x, moved, ok, value)
		}
		if back, ok := impl.ShiftPoly(moved, turnedRat(x)); !ok || !samePoly(back, p) {
			t.Fatalf("ShiftPoly %v %v: %v %v, want %v", moved, x, back, ok, p)
		}
	}
}
