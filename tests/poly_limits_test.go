package tests

import (
	"math/big"
	"testing"

	"loop.example/g00409/impl"
)

// half is 2 to the 95: twice it has a limb more than a coefficient may have.
func half() impl.Big {
	return positive(append(limbs(5, 0), 32768)...)
}

// nearHalf is one less than half.
func nearHalf() impl.Big {
	return positive(append(limbs(5, top), 32767)...)
}

func TestPolyLimitsOfWhatIsGiven(t *testing.T) {
	one := positive(1)
	rows := []struct {
		coef impl.Rat
		good bool
	}{
		{whole(longest()), true}, {whole(turned(longest())), true}, {over(one, longest()), true}, {over(longest(), powerOf(5)), true}, {whole(powerOf(5)), true},
		{whole(powerOf(6)), false}, {whole(turned(powerOf(6))), false}, {over(one, powerOf(6)), false}, {over(powerOf(6), longest()), false}, {over(longest(), powerOf(6)), false}, {whole(most()), false},
	}
	for i, row := range rows {
		for _, p := range [][]impl.Rat{{row.coef}, append(wholePoly(1, 0, 2, 3, 4, 5), row.coef), append([]impl.Rat{row.coef}, wholePoly(1, 2)...)} {
			if impl.GoodPoly(p) != row.good {
				t.Errorf("row %d: GoodPoly %v: %v", i, p, !row.good)
			}
			if _, ok := impl.SignsIn(p); ok != row.good {
				t.Errorf("row %d: SignsIn %v: %v", i, p, ok)
			}
			if _, ok := impl.AddPoly(p, nil); ok != row.good {
				t.Errorf("row %d: AddPoly %v: %v", i, p, ok)
			}
		}
		for _, p := range [][]impl.Rat{nil, wholePoly(3), wholePoly(0, 1)} {
			if _, ok := impl.EvalPoly(p, row.coef); ok != row.good {
				t.Errorf("row %d: EvalPoly %v %v: %v", i, p, row.coef, ok)
			}
			if _, ok := impl.ShiftPoly(p, row.coef); ok != row.good {
				t.Errorf("row %d: ShiftPoly %v %v: %v", i, p, row.coef, ok)
			}
		}
	}
}

func TestCountOfProductMetAndGoneBeyond(t *testing.T) {
	for n := 1; n <= impl.MaxCoefs; n++ {
		for m := 1; m <= impl.MaxCoefs; m++ {
			p, q := wholePoly(append(make([]int, n-1), 2)...), wholePoly(append(make([]int, m-1), -3)...)
			if fits := checkMul(t, p, q); fits != (n+m-1 <= impl.MaxCoefs) {
				t.Errorf("%d and %d coefficients: %v", n, m, fits)
			}
		}
		if !checkMul(t, wholePoly(append(make([]int, n-1), 2)...), nil) {
			t.Errorf("%d coefficients by 0: refused", n)
		}
	}
	if !checkMul(t, wholePoly(1, 2, 3, 4), wholePoly(1, 1, 1, 1)) || checkMul(t, wholePoly(1, 2, 3, 4), wholePoly(1, 1, 1, 1, 1)) {
		t.Error("4 coefficients by 4, and by 5")
	}
}

func TestSumLimitMetAndGoneBeyond(t *testing.T) {
	one := wholePoly(1)
	nearly := []impl.Rat{whole(positive(append([]int{top - 1}, limbs(5, top)...)...))}
	short := over(positive(1), powerOf(3))
	rows := []struct {
		p, q []impl.Rat
		fits bool
	}{
		{nearly, one, true},
		{[]impl.Rat{whole(longest())}, one, false},
		{[]impl.Rat{whole(turned(longest()))}, wholePoly(-1), false},
		{[]impl.Rat{whole(turned(longest()))}, one, true},
		{append(wholePoly(4), whole(longest())), append(wholePoly(5), one...), false},
		{append(wholePoly(4), whole(longest())), wholePoly(5), true},
		{[]impl.Rat{short}, []impl.Rat{over(positive(1), positive(limbs(3, top)...))}, true},
		{[]impl.Rat{short}, []impl.Rat{over(positive(1), positive(limbs(4, top)...))}, false},
		{[]impl.Rat{over(positive(1), longest())}, []impl.Rat{over(positive(1), longest())}, true},
		{[]impl.Rat{over(positive(1), longest()), whole(longest())}, []impl.Rat{over(negative(1), longest()), whole(turned(longest()))}, true},
	}
	for i, row := range rows {
		if fits := checkAdd(t, row.p, row.q); fits != row.fits {
			t.Errorf("row %d: %v, want %v", i, fits, row.fits)
		}
	}
}

func TestProductLimitMetAndGoneBeyond(t *testing.T) {
	short := positive(limbs(3, top)...)
	rows := []struct {
		p, q []impl.Rat
		fits bool
	}{
		{[]impl.Rat{whole(short)}, []impl.Rat{whole(short)}, true},
		{[]impl.Rat{whole(powerOf(3))}, []impl.Rat{whole(powerOf(2))}, true},
		{[]impl.Rat{whole(powerOf(3))}, []impl.Rat{whole(powerOf(3))}, false},
		{[]impl.Rat{over(positive(1), short)}, []impl.Rat{over(positive(1), short)}, true},
		{[]impl.Rat{over(positive(1), powerOf(3))}, []impl.Rat{over(negative(1), powerOf(3))}, false},
		{[]impl.Rat{whole(half())}, wholePoly(2), false},
		{[]impl.Rat{whole(nearHalf())}, wholePoly(2), true},
		// The middle one is a sum, which goes beyond or falls away.
		{[]impl.Rat{whole(half()), whole(half())}, wholePoly(1, 1), false},
		{[]impl.Rat{whole(half()), whole(half())}, wholePoly(1, -1), true},
		// On the way both parts have 12 limbs.
		{[]impl.Rat{over(longest(), powerOf(5))}, []impl.Rat{over(powerOf(5), longest())}, true},
		{[]impl.Rat{whole(longest())}, []impl.Rat{over(positive(1), longest())}, true},
	}
	for i, row := range rows {
		if fits := checkMul(t, row.p, row.q); fits != row.fits {
			t.Errorf("row %d: %v, want %v", i, fits, row.fits)
		}
	}
}

func TestDerivativeLimitMetAndGoneBeyond(t *testing.T) {
	rows := []struct {
		p    []impl.Rat
		fits bool
	}{
		{append(wholePoly(0, 0), whole(nearHalf())), true},
		{append(wholePoly(0, 0), whole(half())), false},
		{[]impl.Rat{whole(longest()), whole(longest())}, true},
		{append(wholePoly(0, 0, 0), over(longest(), positive(2))), false},
		{append(wholePoly(0, 0, 0, 0), over(longest(), positive(4))), true},
		{append(wholePoly(0, 0), over(positive(1), half())), true},
		{append(wholePoly(0, 0), turnedRat(whole(half())), whole(positive(1))), false},
	}
	for i, row := range rows {
		if fits := checkDerive(t, row.p); fits != row.fits {
			t.Errorf("row %d: %v, want %v", i, fits, row.fits)
		}
	}
}

func TestShiftLimitMetAndGoneBeyond(t *testing.T) {
	rows := []struct {
		p    []impl.Rat
		a    impl.Rat
		fits bool
	}{
		{wholePoly(0, 1), whole(longest()), true},
		{wholePoly(1, 1), whole(longest()), false},
		{wholePoly(-1, -1), whole(longest()), false},
		{wholePoly(-1, 1), whole(longest()), true},
		{wholePoly(0, 1), over(negative(1), longest()), true},
		{wholePoly(0, 0, 1), over(positive(1), positive(limbs(3, top)...)), true},
		{wholePoly(0, 0, 1), over(positive(1), powerOf(3)), false},
		{wholePoly(0, 0, 0, 0, 0, 0, 1), whole(positive(0, 1)), false},
		{wholePoly(0, 0, 0, 0, 0, 1), whole(positive(0, 1)), true},
		{wholePoly(5), whole(longest()), true},
		{nil, whole(longest()), true},
		{[]impl.Rat{whole(turned(longest())), whole(positive(1))}, whole(longest()), true},
		{[]impl.Rat{over(longest(), powerOf(5)), over(positive(1), longest())}, over(negative(1), positive(3)), false},
	}
	for i, row := range rows {
		if fits := checkShift(t, row.p, row.a); fits != row.fits {
			t.Errorf("row %d: %v, want %v", i, fits, row.fits)
		}
	}
	// The square of the place has 12 limbs, but falls away.
	r := whole(longest())
	p := []impl.Rat{whole(impl.Big{}), turnedRat(r), whole(positive(1))}
	if q, ok := impl.ShiftPoly(p, r); !ok || !samePoly(q, []impl.Rat{whole(impl.Big{}), r, whole(positive(1))}) {
		t.Error("x times x less the place:", q, ok)
	}
}

// Values are good fractions, so that MaxLimbs is their limit, not that of coefficients.
func TestValueLimitMetAndGoneBeyond(t *testing.T) {
	one := positive(1)
	rows := []struct {
		coef, x impl.Rat
		fits    bool
	}{
		{whole(positive(limbs(4, top)...)), whole(longest()), true},
		{whole(positive(limbs(5, top)...)), whole(longest()), false},
		{whole(longest()), whole(longest()), false},
		{over(one, positive(limbs(4, top)...)), over(one, longest()), true},
		{over(one, positive(limbs(5, top)...)), over(one, longest()), false},
		{over(longest(), powerOf(5)), whole(powerOf(5)), true},
		{whole(turned(powerOf(5))), whole(powerOf(5)), true},
	}
	for i, row := range rows {
		p := append(wholePoly(0, 0, 0, 0, 0, 0), row.coef)
		checkEval(t, p, row.x)
		if _, ok := impl.EvalPoly(p, row.x); ok != row.fits {
			t.Errorf("row %d: %v, want %v", i, ok, row.fits)
		}
	}
	if a, ok := impl.EvalPoly([]impl.Rat{whole(longest())}, whole(longest())); !ok || !sameRat(a, whole(longest())) {
		t.Error("one coefficient:", a, ok)
	}
	if a, ok := impl.EvalPoly(nil, whole(longest())); !ok || ratText(t, a) != "0" {
		t.Error("0:", a, ok)
	}
}

// Ahead of the last step the value has a Den of 41 limbs, of which the last step takes away 6: it comes to 40.
func TestValuePartsLongerThanWhatIsTold(t *testing.T) {
	n := positive(append([]int{1}, append(limbs(4, 0), 32768)...)...)
	few, many := positive(append([]int{top - 6}, limbs(3, top)...)...), positive(append([]int{top - 16}, limbs(5, top)...)...)
	one, nought := positive(1), whole(impl.Big{})
	p := []impl.Rat{nought, over(one, n), over(one, few), nought, nought, nought, over(one, many)}
	x := over(n, powerOf(5))
	ahead := fromPlainRat(plainCoefs(p[1:]).at(plainRat(x)))
	if len(ahead.Den.Limbs) != impl.MaxLimbs+1 {
		t.Fatalf("ahead of the last step Den has %d limbs", len(ahead.Den.Limbs))
	}
	value, ok := impl.EvalPoly(p, x)
	if !ok || len(value.Den.Limbs) != impl.MaxLimbs {
		t.Fatalf("EvalPoly: %v %v", value, ok)
	}
	checkEval(t, p, x)
}

func TestQuotientLimitMetAndGoneBeyond(t *testing.T) {
	one := positive(1)
	short := positive(limbs(3, top)...)
	rows := []struct {
		p, q []impl.Rat
		fits bool
	}{
		{[]impl.Rat{whole(longest())}, []impl.Rat{over(one, one)}, true},
		{[]impl.Rat{whole(nearHalf())}, []impl.Rat{ratOf(t, 1, 2)}, true},
		{[]impl.Rat{whole(half())}, []impl.Rat{ratOf(t, 1, 2)}, false},
		{[]impl.Rat{over(one, nearHalf())}, wholePoly(2), true},
		{[]impl.Rat{over(one, half())}, wholePoly(2), false},
		{[]impl.Rat{over(longest(), powerOf(5))}, []impl.Rat{over(longest(), powerOf(5))}, true},
		{[]impl.Rat{over(longest(), powerOf(5))}, []impl.Rat{over(powerOf(5), longest())}, false},
		// The rest alone goes beyond, or meets the limit: it is the value at the place.
		{wholePoly(0, 0, 1), []impl.Rat{turnedRat(whole(short)), whole(one)}, true},
		{wholePoly(0, 0, 1), []impl.Rat{turnedRat(whole(powerOf(3))), whole(one)}, false},
		{wholePoly(-1, 1), []impl.Rat{whole(longest()), whole(one)}, false},
		{wholePoly(0, -1), []impl.Rat{whole(longest()), whole(one)}, true},
		// The quotient alone goes beyond.
		{append(wholePoly(0, 0), whole(half())), append(wholePoly(0), ratOf(t, 1, 2)), false},
		{append(wholePoly(0, 0), whole(nearHalf())), append(wholePoly(0), ratOf(t, 1, 2)), true},
		// Fewer coefficients than what divides: no limit is in the way.
		{[]impl.Rat{over(longest(), powerOf(5))}, []impl.Rat{whole(longest()), over(one, longest())}, true},
	}
	for i, row := range rows {
		if fits := checkDiv(t, row.p, row.q); fits != row.fits {
			t.Errorf("row %d: %v, want %v", i, fits, row.fits)
		}
	}
}

// Made of a quotient and a divisor whose coefficients all have their own long Den: on the way there are far longer ones.
func TestQuotientOfLongParts(t *testing.T) {
	r := fixed(47)
	told := 0
	for range 300 {
		q, s := somePoly(r, 1+r.IntN(4), 2), somePoly(r, 1+r.IntN(4), 1)
		p := plainCoefs(q).times(plainCoefs(s))
		if !p.fits() {
			continue
		}
		told++
		quotient, rest, ok := impl.DivPoly(p.told(), q)
		if !ok || !samePoly(quotient, s) || len(rest) > 0 {
			t.Fatalf("DivPoly %v %v: %v %v %v, want %v", p, q, quotient, rest, ok, s)
		}
	}
	if told < 100 {
		t.Error("too few were told:", told)
	}
}

func TestGcdLimitMetAndGoneBeyond(t *testing.T) {
	one := positive(1)
	rows := []struct {
		p, q []impl.Rat
		fits bool
	}{
		{nil, []impl.Rat{whole(longest()), whole(one)}, true},
		{[]impl.Rat{whole(half()), ratOf(t, 1, 2)}, nil, false},
		{[]impl.Rat{whole(nearHalf()), ratOf(t, 1, 2)}, nil, true},
		{nil, []impl.Rat{over(one, half()), whole(positive(2))}, false},
		{nil, []impl.Rat{over(one, nearHalf()), whole(positive(2))}, true},
		{[]impl.Rat{whole(half()), ratOf(t, 1, 2)}, []impl.Rat{whole(half()), ratOf(t, 1, 2)}, false},
		{[]impl.Rat{whole(half()), ratOf(t, 1, 2)}, []impl.Rat{whole(half()), ratOf(t, 1, 3)}, true},
		{nil, []impl.Rat{whole(longest())}, true},
		{[]impl.Rat{over(one, longest())}, []impl.Rat{whole(turned(longest()))}, true},
	}
	for i, row := range rows {
		if fits := checkGcd(t, row.p, row.q); fits != row.fits {
			t.Errorf("row %d: %v, want %v", i, fits, row.fits)
		}
	}
}

// withoutRootNought makes sure that two such have not x in common.
func withoutRootNought(p []impl.Rat) []impl.Rat {
	if len(p[0].Num.Limbs) == 0 {
		p[0] = whole(positive(1))
	}
	return p
}

// Rests of these have hundreds of limbs, what divides both has one coefficient.
func TestGcdOfLongPolys(t *testing.T) {
	r := fixed(48)
	for range 10 {
		p, q := withoutRootNought(somePoly(r, impl.MaxCoefs, coefLimbs)), somePoly(r, impl.MaxCoefs, coefLimbs)
		if common, ok := impl.GcdPoly(p, q); !ok || polyText(t, common) != "1" {
			t.Fatalf("GcdPoly %v %v: %v %v", p, q, common, ok)
		}
	}
}

func TestGcdOfLongPolysWithAPart(t *testing.T) {
	r := fixed(49)
	long := func() plainPoly {
		p := withoutRootNought(somePoly(r, 4, coefLimbs-2))
		for i := range p {
			p[i].Den = positive(1)
		}
		return plainCoefs(p)
	}
	part := plainPoly{big.NewRat(-5, 3), big.NewRat(7, 2), big.NewRat(1, 1)}
	for range 10 {
		p, q := long().times(part), long().times(part)
		if !p.fits() || !q.fits() {
			t.Fatalf("too long: %v %v", p, q)
		}
		if common, ok := impl.GcdPoly(p.told(), q.told()); !ok || !samePoly(common, part.told()) {
			t.Fatalf("GcdPoly %v %v: %v %v", p, q, common, ok)
		}
	}
}

func TestSquareFreeLimitMetAndGoneBeyond(t *testing.T) {
	one := positive(1)
	rows := []struct {
		p    []impl.Rat
		fits bool
	}{
		{[]impl.Rat{whole(nearHalf()), ratOf(t, 1, 2)}, true},
		{[]impl.Rat{whole(half()), ratOf(t, 1, 2)}, false},
		{[]impl.Rat{over(one, nearHalf()), whole(positive(2))}, true},
		{[]impl.Rat{over(one, half()), whole(positive(2))}, false},
		{[]impl.Rat{over(longest(), powerOf(5))}, true},
		// The derivative has a limb too many, but is not told.
		{append(wholePoly(0, 0, 0, 0, 0, 0), whole(longest())), true},
		{append(wholePoly(0, 0), whole(half())), true},
		{[]impl.Rat{whole(longest()), whole(impl.Big{}), whole(longest())}, true},
		{[]impl.Rat{whole(longest()), whole(powerOf(5)), whole(longest()), whole(powerOf(4)), whole(longest()), whole(powerOf(3)), whole(one)}, true},
	}
	for i, row := range rows {
		if fits := checkSquareFree(t, row.p); fits != row.fits {
			t.Errorf("row %d: %v, want %v", i, fits, row.fits)
		}
	}
}

// The sixth power of one root, by such a factor that its coefficients are short on both sides; what divides it and its derivative has longer ones, and is refused where it is told, but is not told here.
func TestSquareFreeOfALongPart(t *testing.T) {
	root := big.NewRat(1<<30-35, 1<<29+11)
	line := plainPoly{new(big.Rat).Neg(root), big.NewRat(1, 1)}
	p := plainPoly{plainPower(new(big.Rat).Inv(root), 3)}
	for range 6 {
		p = p.times(line)
	}
	if !p.fits() || p.common(p.slope()).fits() {
		t.Fatalf("%v is not as it should be", p)
	}
	slope, ok := impl.DerivePoly(p.told())
	if _, is := impl.GcdPoly(p.told(), slope); !ok || is {
		t.Errorf("DerivePoly and GcdPoly: %v %v", ok, is)
	}
	if once, ok := impl.SquareFree(p.told()); !ok || !samePoly(once, line.told()) {
		t.Errorf("SquareFree: %v %v, want %v", once, ok, line)
	}
}
