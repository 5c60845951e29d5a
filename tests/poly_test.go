package tests

import (
	"math"
	"math/big"
	"testing"

	"loop.example/g00409/impl"
)

func TestMaxCoefs(t *testing.T) {
	if impl.MaxCoefs != 7 {
		t.Error(impl.MaxCoefs)
	}
}

func TestGoodPoly(t *testing.T) {
	for _, p := range append(edgePolys(t), smallPolys(4)...) {
		if !impl.GoodPoly(p) {
			t.Errorf("%v is good", p)
		}
	}
	for _, p := range wrongPolys(t) {
		if impl.GoodPoly(p) {
			t.Errorf("%v is not good", p)
		}
	}
}

func checkEval(t *testing.T, p []impl.Rat, x impl.Rat) {
	t.Helper()
	a, ok := impl.EvalPoly(p, x)
	wantRat(t, "EvalPoly", a, ok, plainCoefs(p).at(plainRat(x)))
}

func checkShift(t *testing.T, p []impl.Rat, a impl.Rat) bool {
	t.Helper()
	q, ok := impl.ShiftPoly(p, a)
	return wantPoly(t, "ShiftPoly", q, ok, plainCoefs(p).shifted(plainRat(a)))
}

func checkAdd(t *testing.T, p, q []impl.Rat) bool {
	t.Helper()
	sum, ok := impl.AddPoly(p, q)
	return wantPoly(t, "AddPoly", sum, ok, plainCoefs(p).plus(plainCoefs(q)))
}

func checkMul(t *testing.T, p, q []impl.Rat) bool {
	t.Helper()
	product, ok := impl.MulPoly(p, q)
	return wantPoly(t, "MulPoly", product, ok, plainCoefs(p).times(plainCoefs(q)))
}

func checkDerive(t *testing.T, p []impl.Rat) bool {
	t.Helper()
	slope, ok := impl.DerivePoly(p)
	return wantPoly(t, "DerivePoly", slope, ok, plainCoefs(p).slope())
}

func checkDiv(t *testing.T, p, q []impl.Rat) bool {
	t.Helper()
	quotient, rest, ok := impl.DivPoly(p, q)
	if len(q) == 0 {
		if ok || len(quotient)+len(rest) > 0 {
			t.Fatalf("DivPoly %v by 0: %v %v %v", p, quotient, rest, ok)
		}
		return false
	}
	wantQuotient, wantRest := plainCoefs(p).dividedBy(plainCoefs(q))
	if wantQuotient.fits() != wantRest.fits() {
		if ok || len(quotient)+len(rest) > 0 {
			t.Fatalf("DivPoly %v %v: %v %v %v, but one of both does not fit", p, q, quotient, rest, ok)
		}
		return false
	}
	wantPoly(t, "the quotient of DivPoly", quotient, ok, wantQuotient)
	return wantPoly(t, "the rest of DivPoly", rest, ok, wantRest)
}

func checkGcd(t *testing.T, p, q []impl.Rat) bool {
	t.Helper()
	common, ok := impl.GcdPoly(p, q)
	return wantPoly(t, "GcdPoly", common, ok, plainCoefs(p).common(plainCoefs(q)))
}

func checkSquareFree(t *testing.T, p []impl.Rat) bool {
	t.Helper()
	once, ok := impl.SquareFree(p)
	if len(p) == 0 {
		if ok || len(once) > 0 {
			t.Fatalf("SquareFree of 0: %v %v", once, ok)
		}
		return false
	}
	return wantPoly(t, "SquareFree", once, ok, plainCoefs(p).squareFree())
}

func checkSigns(t *testing.T, p []impl.Rat) {
	t.Helper()
	want := plainChanges(plainCoefs(p))
	if n, ok := impl.SignsIn(p); n != want || !ok {
		t.Fatalf("SignsIn %v: %d %v, want %d", p, n, ok, want)
	}
}

func checkOne(t *testing.T, p []impl.Rat) {
	t.Helper()
	checkDerive(t, p)
	checkSquareFree(t, p)
	checkSigns(t, p)
}

func checkTwo(t *testing.T, p, q []impl.Rat) {
	t.Helper()
	checkAdd(t, p, q)
	checkMul(t, p, q)
	checkDiv(t, p, q)
	checkGcd(t, p, q)
}

func TestSmallPolys(t *testing.T) {
	all := smallPolys(4)
	xs := []impl.Rat{ratOf(t, 0, 1), ratOf(t, 1, 1), ratOf(t, -2, 1), ratOf(t, 3, 2), ratOf(t, -5, 7)}
	for _, p := range all {
		checkOne(t, p)
		for _, x := range xs {
			checkEval(t, p, x)
			checkShift(t, p, x)
		}
		for _, q := range all {
			checkTwo(t, p, q)
		}
	}
}

func TestEdgePolys(t *testing.T) {
	all := edgePolys(t)
	xs := []impl.Rat{ratOf(t, 0, 1), ratOf(t, -1, 1), ratOf(t, 2, 3), whole(longest()), over(negative(1), longest()), over(longest(), powerOf(5)), whole(turned(powerOf(5)))}
	for _, p := range all {
		checkOne(t, p)
		for _, x := range xs {
			checkEval(t, p, x)
			checkShift(t, p, x)
		}
		for _, q := range all {
			checkTwo(t, p, q)
		}
	}
}

func TestSomePolys(t *testing.T) {
	r := fixed(41)
	for range 300 {
		p, q := somePoly(r, r.IntN(8), 1), somePoly(r, r.IntN(8), 1)
		x := someRat(r, 1)
		checkTwo(t, p, q)
		checkOne(t, p)
		checkEval(t, p, x)
		checkShift(t, p, x)
	}
	for range 25 {
		p, q := somePoly(r, r.IntN(8), coefLimbs), somePoly(r, r.IntN(8), coefLimbs)
		x := someRat(r, coefLimbs)
		checkTwo(t, p, q)
		checkOne(t, p)
		checkEval(t, p, x)
		checkShift(t, p, x)
	}
}

// Coefficients and what is told as texts, `-` where it is refused.
func TestPolysWrittenOut(t *testing.T) {
	rows := []struct {
		p, q                              []int
		sum, product, quotient, rest, gcd string
	}{
		{[]int{}, []int{}, "", "", "-", "-", ""},
		{[]int{}, []int{2, 4}, "2 4", "", "", "", "1/2 1"},
		{[]int{2, 4}, []int{}, "2 4", "", "-", "-", "1/2 1"},
		{[]int{}, []int{-5}, "-5", "", "", "", "1"},
		{[]int{6}, []int{4}, "10", "24", "3/2", "", "1"},
		{[]int{6}, []int{-6}, "", "-36", "-1", "", "1"},
		{[]int{3}, []int{1, 2}, "4 2", "3 6", "", "3", "1"},
		{[]int{1, 2}, []int{3}, "4 2", "3 6", "1/3 2/3", "", "1"},
		{[]int{-1, 0, 1}, []int{1, 1}, "0 1 1", "-1 -1 1 1", "-1 1", "", "1 1"},
		{[]int{1, 1}, []int{-1, 0, 1}, "0 1 1", "-1 -1 1 1", "", "1 1", "1 1"},
		{[]int{1, 0, 1}, []int{-1, 1}, "0 1 1", "-1 1 -1 1", "1 1", "2", "1"},
		{[]int{1, 2, 3}, []int{1, 2, -3}, "2 4", "1 4 4 0 -9", "-1", "2 4", "1"},
		{[]int{1, 2, 3}, []int{-1, -2, -3}, "", "-1 -4 -10 -12 -9", "-1", "", "1/3 2/3 1"},
		{[]int{5, 2, 3}, []int{-1, -2, -3}, "4", "-5 -12 -22 -12 -9", "-1", "4", "1"},
		{[]int{0, 0, 2}, []int{0, 4}, "0 4 2", "0 0 0 8", "0 1/2", "", "0 1"},
		{[]int{-1, 0, 0, 0, 0, 0, 1}, []int{-1, 0, 0, 0, 1}, "-2 0 0 0 1 0 1", "-", "0 0 1", "-1 0 1", "-1 0 1"},
		{[]int{0, 0, 0, 1}, []int{1, 0, 0, 2}, "1 0 0 3", "0 0 0 1 0 0 2", "1/2", "-1/2", "1"},
		{[]int{0, 0, 0, 1}, []int{1, 0, 0, 0, 2}, "1 0 0 1 2", "-", "", "0 0 0 1", "1"},
		{[]int{6, -5, 1}, []int{12, -7, 1}, "18 -12 2", "72 -102 53 -12 1", "1", "-6 2", "-3 1"},
	}
	text := func(p []impl.Rat, ok bool) string {
		if !ok {
			return "-"
		}
		return polyText(t, p)
	}
	for i, row := range rows {
		p, q := wholePoly(row.p...), wholePoly(row.q...)
		if s := text(impl.AddPoly(p, q)); s != row.sum {
			t.Errorf("row %d: sum %q, want %q", i, s, row.sum)
		}
		if s := text(impl.MulPoly(p, q)); s != row.product {
			t.Errorf("row %d: product %q, want %q", i, s, row.product)
		}
		quotient, rest, ok := impl.DivPoly(p, q)
		if a, b := text(quotient, ok), text(rest, ok); a != row.quotient || b != row.rest {
			t.Errorf("row %d: %q and rest %q, want %q and %q", i, a, b, row.quotient, row.rest)
		}
		if s := text(impl.GcdPoly(p, q)); s != row.gcd {
			t.Errorf("row %d: gcd %q, want %q", i, s, row.gcd)
		}
	}
}

func TestOnePolyWrittenOut(t *testing.T) {
	rows := []struct {
		p                 []int
		value, shifted    string // at 3/2, by -1
		slope, squareFree string
		signs             int
	}{
		{[]int{}, "0", "", "", "-", 0},
		{[]int{4}, "4", "4", "", "1", 0},
		{[]int{-4}, "-4", "-4", "", "1", 0},
		{[]int{1, 2}, "4", "-1 2", "2", "1/2 1", 0},
		{[]int{-1, 2}, "2", "-3 2", "2", "-1/2 1", 1},
		{[]int{0, 0, 5}, "45/4", "5 -10 5", "0 10", "0 1", 0},
		{[]int{1, -2, 1}, "1/4", "4 -4 1", "-2 2", "-1 1", 2},
		{[]int{-1, 3, -3, 1}, "1/8", "-8 12 -6 1", "3 -6 3", "-1 1", 3},
		{[]int{2, -5, 4, -1}, "1/8", "12 -16 7 -1", "-5 8 -3", "2 -3 1", 3}, // (1-x)^2 (2-x)
		{[]int{-1, 0, 0, 2}, "23/4", "-3 6 -6 2", "0 0 6", "-1/2 0 0 1", 1},
		{[]int{0, -1, 0, 0, -3}, "-267/16", "-2 11 -18 12 -3", "-1 0 0 -12", "0 1/3 0 0 1", 0},
		{[]int{3, 0, 0, -1, 0, 0, 1}, "705/64", "5 -9 18 -21 15 -6 1", "0 0 -3 0 0 6", "3 0 0 -1 0 0 1", 2},
	}
	for i, row := range rows {
		p := wholePoly(row.p...)
		if a, ok := impl.EvalPoly(p, ratOf(t, 3, 2)); !ok || ratText(t, a) != row.value {
			t.Errorf("row %d: value %v %v, want %s", i, a, ok, row.value)
		}
		if q, ok := impl.ShiftPoly(p, ratOf(t, -1, 1)); !ok || polyText(t, q) != row.shifted {
			t.Errorf("row %d: shifted %v %v, want %s", i, q, ok, row.shifted)
		}
		if q, ok := impl.DerivePoly(p); !ok || polyText(t, q) != row.slope {
			t.Errorf("row %d: slope %v %v, want %s", i, q, ok, row.slope)
		}
		q, ok := impl.SquareFree(p)
		if s := polyText(t, q); ok != (row.squareFree != "-") || ok && s != row.squareFree {
			t.Errorf("row %d: square free %q %v, want %s", i, s, ok, row.squareFree)
		}
		if n, ok := impl.SignsIn(p); n != row.signs || !ok {
			t.Errorf("row %d: signs %d %v, want %d", i, n, ok, row.signs)
		}
	}
}

func TestSignsWithNoughtsBetween(t *testing.T) {
	rows := []struct {
		p    []int
		want int
	}{
		{nil, 0}, {[]int{9}, 0}, {[]int{0, 0, -9}, 0}, {[]int{1, 0, 0, -1}, 1}, {[]int{1, 0, 0, 1}, 0}, {[]int{-1, 0, -2, 0, 0, -1}, 0},
		{[]int{0, 1, 0, -1, 0, 1}, 2}, {[]int{0, 0, -1, 0, 3, 0, -1}, 2}, {[]int{1, -1, 1, -1, 1, -1, 1}, 6}, {[]int{1, 1, -1, -1, 0, 1, 1}, 2},
	}
	for _, row := range rows {
		if n, ok := impl.SignsIn(wholePoly(row.p...)); n != row.want || !ok {
			t.Errorf("SignsIn %v: %d %v, want %d", row.p, n, ok, row.want)
		}
	}
}

func TestPolyOf(t *testing.T) {
	rows := []struct {
		l    []int
		want int // how many coefficients it has
	}{
		{nil, 0}, {[]int{}, 0}, {[]int{0}, 0}, {[]int{0, 0, 0}, 0}, {make([]int, 7), 0},
		{[]int{5}, 1}, {[]int{0, -5}, 2}, {[]int{5, 0, 0}, 1}, {[]int{0, 3, 0, 0, 0, 0, 0}, 2},
		{[]int{1000, -1000}, 2}, {[]int{-1000}, 1}, {[]int{1, 2, 3, 4, 5, 6, 7}, 7}, {[]int{0, 0, 0, 0, 0, 0, -1}, 7}, {[]int{1000, 999, 0, -999, -1000, 0, 0}, 5},
	}
	for _, row := range rows {
		p, ok := impl.PolyOf(row.l)
		if !ok || len(p) != row.want || !impl.GoodPoly(p) {
			t.Errorf("PolyOf %v: %v %v, want %d coefficients", row.l, p, ok, row.want)
			continue
		}
		if !samePoly(p, wholePoly(row.l[:row.want]...)) {
			t.Errorf("PolyOf %v: %v", row.l, p)
		}
	}
	for n := -1000; n <= 1000; n++ {
		if p, ok := impl.PolyOf([]int{n, n, 0}); !ok || n != 0 && !samePoly(p, wholePoly(n, n)) || n == 0 && len(p) > 0 {
			t.Fatalf("PolyOf %d: %v %v", n, p, ok)
		}
	}
}

func TestPolyOfWrongNumbers(t *testing.T) {
	wrong := [][]int{make([]int, 8), {1, 2, 3, 4, 5, 6, 7, 8}, {1, 0, 0, 0, 0, 0, 0, 0}, {0, 0, 0, 0, 0, 0, 0, 1}, make([]int, 1000)}
	for _, far := range []int{1001, -1001, math.MaxInt, math.MinInt} {
		wrong = append(wrong, []int{far}, []int{far, 0}, []int{1, far, 2}, []int{0, 0, 0, 0, 0, 0, far})
	}
	for _, l := range wrong {
		wantZero(t, impl.PolyOf, l)
	}
}

// What is left out at the end of a list is not handed out either.
func TestNoNoughtsBehindThePoly(t *testing.T) {
	p, _ := impl.PolyOf([]int{1, 2, 0, 0})
	q, _ := impl.AddPoly(wholePoly(1, 2, 3), wholePoly(1, 2, -3))
	_, r, _ := impl.DivPoly(wholePoly(1, 0, 0, 1), wholePoly(0, 1))
	for i, l := range [][]impl.Rat{p, q, r} {
		if cap(l) != len(l) {
			t.Errorf("%d: %v has room for %d", i, l, cap(l))
		}
	}
}

// Of each gap between the counts of two polynomials, since rests are divided by products that hang on it.
func TestGcdOverGaps(t *testing.T) {
	r := fixed(42)
	for n := 1; n <= 4; n++ {
		for a := range 8 - n {
			for b := range 8 - n {
				g := plainCoefs(smallPoly(r, n, 9))
				p := g.times(plainPoly{big.NewRat(3, 1)}.plus(append(plainNoughts(a), big.NewRat(2, 5))))
				q := g.times(plainPoly{big.NewRat(-7, 2)}.plus(append(plainNoughts(b), big.NewRat(1, 3))))
				if !checkGcd(t, p.told(), q.told()) || !checkGcd(t, q.told(), p.told()) {
					t.Errorf("refused: %v %v", p, q)
				}
			}
		}
	}
}

// Roots as often as told; what is left has each of them once.
func TestSquareFreeOfRoots(t *testing.T) {
	line := func(num, den int) plainPoly { return plainPoly{big.NewRat(int64(-num), int64(den)), big.NewRat(1, 1)} }
	rows := []struct {
		often []int // of 1/2, -3, 0
		by    *big.Rat
	}{
		{[]int{2, 0, 0}, big.NewRat(4, 1)}, {[]int{3, 0, 0}, big.NewRat(-1, 3)}, {[]int{2, 1, 0}, big.NewRat(1, 1)}, {[]int{3, 2, 0}, big.NewRat(-8, 1)},
		{[]int{3, 2, 1}, big.NewRat(5, 7)}, {[]int{2, 2, 2}, big.NewRat(-5, 7)}, {[]int{1, 1, 1}, big.NewRat(2, 1)}, {[]int{0, 0, 6}, big.NewRat(9, 2)}, {[]int{6, 0, 0}, big.NewRat(64, 1)}, {[]int{0, 5, 1}, big.NewRat(1, 9)},
	}
	for i, row := range rows {
		p, want := plainPoly{row.by}, plainPoly{big.NewRat(1, 1)}
		for k, l := range []plainPoly{line(1, 2), line(-3, 1), line(0, 1)} {
			for range row.often[k] {
				p = p.times(l)
			}
			if row.often[k] > 0 {
				want = want.times(l)
			}
		}
		once, ok := impl.SquareFree(p.told())
		if !ok || !samePoly(once, want.told()) {
			t.Errorf("row %d: SquareFree %v: %v %v, want %v", i, p, once, ok, want)
		}
	}
}
