package tests

import (
	"math/big"
	"slices"
	"testing"

	"loop.example/g00409/impl"
)

// plainTerms goes by the library's numbers: Euclid's division has a rest of at least 0.
func plainTerms(a impl.Rat) []impl.Big {
	terms := []impl.Big{}
	num, den := plain(a.Num), plain(a.Den)
	for den.Sign() > 0 {
		floor, rest := new(big.Int).DivMod(num, den, new(big.Int))
		terms = append(terms, fromPlain(floor))
		num, den = den, rest
	}
	return terms
}

// checkTerms: promise 2, a fraction comes back from its terms.
func checkTerms(t *testing.T, a impl.Rat) {
	t.Helper()
	terms, ok := impl.TermsOf(a)
	want := plainTerms(a)
	if len(want) > 60 {
		if ok || len(terms) > 0 {
			t.Fatalf("TermsOf %v: %v %v, want the zero answer: there are %d", a, terms, ok, len(want))
		}
		return
	}
	if !ok || !slices.EqualFunc(terms, want, sameBig) {
		t.Fatalf("TermsOf %v: %v %v, want %v", a, terms, ok, want)
	}
	if back, ok := impl.FromTerms(terms); !ok || !sameRat(back, a) {
		t.Fatalf("FromTerms %v: %v %v, want %v", terms, back, ok, a)
	}
}

func TestPromise2BackFromTerms(t *testing.T) {
	for _, a := range append(edgeRats(), smallRats(t, 30)...) {
		checkTerms(t, a)
	}
	r := fixed(21)
	for range 2000 {
		checkTerms(t, someRat(r, 3))
		checkTerms(t, someRat(r, impl.MaxLimbs))
	}
}

func bigsOf(l ...int) []impl.Big {
	bigs := make([]impl.Big, len(l))
	for i, n := range l {
		bigs[i] = impl.BigOf(n)
	}
	return bigs
}

func TestTermsWrittenOut(t *testing.T) {
	rows := []struct {
		num, den int
		terms    []int
	}{
		{0, 1, []int{0}}, {5, 1, []int{5}}, {-5, 1, []int{-5}}, {1, 2, []int{0, 2}}, {-1, 2, []int{-1, 2}}, {-3, 2, []int{-2, 2}},
		{43, 30, []int{1, 2, 3, 4}}, {-43, 30, []int{-2, 1, 1, 3, 4}}, {22, 7, []int{3, 7}}, {-1, 3, []int{-1, 1, 2}}, {415, 93, []int{4, 2, 6, 7}},
	}
	for _, row := range rows {
		a := ratOf(t, row.num, row.den)
		if terms, ok := impl.TermsOf(a); !ok || !slices.EqualFunc(terms, bigsOf(row.terms...), sameBig) {
			t.Errorf("TermsOf %d by %d: %v %v", row.num, row.den, terms, ok)
		}
		if back, ok := impl.FromTerms(bigsOf(row.terms...)); !ok || !sameRat(back, a) {
			t.Errorf("FromTerms %v: %v %v", row.terms, back, ok)
		}
	}
}

// A last term of 1 is above 0 like any other one: the terms tell a fraction, though not in the way that TermsOf has.
func TestFromTermsThatEndInOne(t *testing.T) {
	rows := []struct {
		terms []int
		text  string
	}{
		{[]int{2, 1}, "3"}, {[]int{-1, 1}, "0"}, {[]int{0, 1}, "1"}, {[]int{0, 2, 1}, "1/3"}, {[]int{-2, 1, 1}, "-3/2"}, {[]int{1, 1, 1, 1}, "5/3"},
	}
	for _, row := range rows {
		if a, ok := impl.FromTerms(bigsOf(row.terms...)); !ok || ratText(t, a) != row.text {
			t.Errorf("FromTerms %v: %v %v", row.terms, a, ok)
		}
	}
}

// plainFrom is the fraction of terms by the library's numbers.
func plainFrom(l []impl.Big) *big.Rat {
	sum := new(big.Rat).SetInt(plain(l[len(l)-1]))
	for _, term := range slices.Backward(l[:len(l)-1]) {
		sum = sum.Add(new(big.Rat).SetInt(plain(term)), new(big.Rat).Inv(sum))
	}
	return sum
}

func TestSixtyTermsAndMore(t *testing.T) {
	for _, first := range []int{0, 1, -1, -7} {
		terms := append(bigsOf(first), slices.Repeat(bigsOf(1), 58)...)
		terms = append(terms, impl.BigOf(2))
		a, ok := impl.FromTerms(terms)
		wantRat(t, "of 60 terms", a, ok, plainFrom(terms))
		if back, ok := impl.TermsOf(a); !ok || !slices.EqualFunc(back, terms, sameBig) {
			t.Errorf("60 terms of %v: %v %v", a, back, ok)
		}
		more := slices.Insert(slices.Clone(terms), 1, impl.BigOf(1))
		wantZero(t, impl.FromTerms, more)
		wantZero(t, impl.TermsOf, fromPlainRat(plainFrom(more)))
	}
	wantZero(t, impl.FromTerms, slices.Repeat(bigsOf(1), 100000))
}

func TestFromTermsAtTheLimit(t *testing.T) {
	two, one := positive(2), positive(1)
	half := positive(append([]int{1}, append(limbs(38, 0), 32768)...)...)
	lessHalf, _ := impl.SubBig(half, one)
	beyond, _ := impl.SubBig(most(), one)
	rows := []struct {
		terms []impl.Big
		fits  bool
	}{
		{[]impl.Big{most()}, true},
		{[]impl.Big{turned(most())}, true},
		{[]impl.Big{{}, most()}, true},
		{[]impl.Big{negative(1), one, beyond}, true},
		{[]impl.Big{negative(1), one, most()}, false},
		{[]impl.Big{most(), one}, false},
		{[]impl.Big{most(), two}, false},
		{[]impl.Big{powerOf(19), powerOf(20)}, true},
		{[]impl.Big{powerOf(20), powerOf(20)}, false},
		// Twice half has more limbs than a number, but one half of it is given back.
		{[]impl.Big{negative(2), one, lessHalf}, true},
		{[]impl.Big{negative(2), half}, false},
	}
	for i, row := range rows {
		a, ok := impl.FromTerms(row.terms)
		if ok != row.fits {
			t.Errorf("row %d: %v %v", i, a, ok)
		}
		wantRat(t, "FromTerms", a, ok, plainFrom(row.terms))
	}
	r := fixed(22)
	for range 500 {
		terms := []impl.Big{someBig(r, r.IntN(4))}
		for range r.IntN(60) {
			terms = append(terms, positive(someBig(r, 1+r.IntN(2)).Limbs...))
		}
		a, ok := impl.FromTerms(terms)
		wantRat(t, "FromTerms", a, ok, plainFrom(terms))
	}
	wantZero(t, impl.FromTerms, slices.Repeat([]impl.Big{most()}, 60))
}

// checkSimplest: promise 2, what is told lies strictly between, and nothing between has a lesser Den.
func checkSimplest(t *testing.T, a, b impl.Rat) {
	t.Helper()
	mid, ok := impl.SimplestIn(a, b)
	if !ok || !impl.GoodRat(mid) {
		t.Fatalf("SimplestIn %v %v: %v %v", a, b, mid, ok)
	}
	lo, hi := plainRat(a), plainRat(b)
	if lo.Cmp(plainRat(mid)) >= 0 || plainRat(mid).Cmp(hi) >= 0 {
		t.Fatalf("SimplestIn %v %v: %v is not between", a, b, mid)
	}
	den := plain(mid.Den).Int64()
	for d := int64(1); d < den; d++ {
		by := new(big.Rat).SetInt64(d)
		low, high := new(big.Rat).Mul(lo, by), new(big.Rat).Mul(hi, by)
		next := new(big.Int).Div(low.Num(), low.Denom())
		next.Add(next, big.NewInt(1))
		if new(big.Rat).SetInt(next).Cmp(high) < 0 {
			t.Fatalf("SimplestIn %v %v: %v, but %v/%d is between", a, b, mid, next, d)
		}
	}
}

func TestPromise2NoLesserDen(t *testing.T) {
	all := smallRats(t, 8)
	for _, a := range all {
		for _, b := range all {
			if plainRat(a).Cmp(plainRat(b)) < 0 {
				checkSimplest(t, a, b)
			}
		}
	}
	r := fixed(23)
	told := 0
	for range 300 {
		num, den := r.IntN(4000)-2000, 1+r.IntN(150)
		a := ratOf(t, num, den)
		b, _ := impl.AddRat(a, ratOf(t, 1, 1+r.IntN(5000)))
		want := plainWalk(plainRat(a), plainRat(b))
		if want == nil {
			wantZero(t, impl.SimplestIn, a, b)
			continue
		}
		told++
		checkSimplest(t, a, b)
		mid, ok := impl.SimplestIn(a, b)
		wantRat(t, "SimplestIn", mid, ok, want)
	}
	if told < 200 {
		t.Error("of 300 pairs only so many have 200 mids at most:", told)
	}
}

// plainWalk goes from mid to mid by the library's numbers; nil where 200 are not enough.
func plainWalk(a, b *big.Rat) *big.Rat {
	one := big.NewInt(1)
	floor := new(big.Int).Div(a.Num(), a.Denom())
	next := new(big.Int).Add(floor, one)
	if whole := new(big.Rat).SetInt(next); whole.Cmp(b) < 0 {
		return whole
	}
	lo, hi := [2]*big.Int{floor, one}, [2]*big.Int{next, one}
	for range 200 {
		mid := [2]*big.Int{new(big.Int).Add(lo[0], hi[0]), new(big.Int).Add(lo[1], hi[1])}
		at := new(big.Rat).SetFrac(mid[0], mid[1])
		if at.Cmp(a) > 0 && at.Cmp(b) < 0 {
			return at
		}
		if at.Cmp(a) <= 0 {
			lo = mid
		} else {
			hi = mid
		}
	}
	return nil
}

// Two fractions whose terms begin alike are near each other: the walk is long, and goes both ways.
func TestSimplestBetweenLongFractions(t *testing.T) {
	r := fixed(24)
	told := 0
	for range 500 {
		alike := bigsOf(r.IntN(2000) - 1000)
		for range r.IntN(59) {
			alike = append(alike, impl.BigOf(1+r.IntN(6)))
		}
		a, _ := impl.FromTerms(append(slices.Clone(alike), impl.BigOf(1+r.IntN(30))))
		b, _ := impl.FromTerms(append(slices.Clone(alike), impl.BigOf(31+r.IntN(30))))
		if plainRat(a).Cmp(plainRat(b)) > 0 {
			a, b = b, a
		}
		want := plainWalk(plainRat(a), plainRat(b))
		if want == nil {
			wantZero(t, impl.SimplestIn, a, b)
			continue
		}
		told++
		mid, ok := impl.SimplestIn(a, b)
		wantRat(t, "SimplestIn", mid, ok, want)
	}
	if told < 250 || told == 500 {
		t.Error("pairs with 200 mids at most should be many, but not all:", told)
	}
}

func TestSimplestWrittenOut(t *testing.T) {
	rows := []struct {
		a, b [2]int
		text string
	}{
		{[2]int{1, 3}, [2]int{1, 2}, "2/5"},
		// f and 1 is told where it is less than b, also where another whole number is nearer to 0.
		{[2]int{1, 2}, [2]int{10, 1}, "1"}, {[2]int{-5, 2}, [2]int{7, 2}, "-2"}, {[2]int{3, 1}, [2]int{9, 2}, "4"}, {[2]int{-1, 2}, [2]int{1, 2}, "0"}, {[2]int{-3, 1}, [2]int{3, 1}, "-2"},
		// Where f and 1 is b, or more, it is not.
		{[2]int{3, 1}, [2]int{4, 1}, "7/2"}, {[2]int{1, 2}, [2]int{1, 1}, "2/3"}, {[2]int{1, 2}, [2]int{3, 4}, "2/3"}, {[2]int{-1, 2}, [2]int{0, 1}, "-1/3"}, {[2]int{-4, 1}, [2]int{-3, 1}, "-7/2"},
		{[2]int{0, 1}, [2]int{1, 10}, "1/11"}, {[2]int{9, 10}, [2]int{1, 1}, "10/11"}, {[2]int{314, 100}, [2]int{315, 100}, "22/7"}, {[2]int{3141592, 1000000}, [2]int{3141593, 1000000}, "355/113"},
	}
	for _, row := range rows {
		a, b := ratOf(t, row.a[0], row.a[1]), ratOf(t, row.b[0], row.b[1])
		if mid, ok := impl.SimplestIn(a, b); !ok || ratText(t, mid) != row.text {
			t.Errorf("SimplestIn %v %v: %v %v, want %s", row.a, row.b, mid, ok, row.text)
		}
	}
}

// Towards 0 and towards 1 each mid comes one Den nearer: so the mids that are looked at can be counted.
func TestTwoHundredMidsAndMore(t *testing.T) {
	nought, one := ratOf(t, 0, 1), ratOf(t, 1, 1)
	if mid, ok := impl.SimplestIn(nought, ratOf(t, 1, 200)); !ok || ratText(t, mid) != "1/201" {
		t.Error("the mid 200 towards 0:", mid, ok)
	}
	if mid, ok := impl.SimplestIn(ratOf(t, 199, 200), one); !ok || ratText(t, mid) != "200/201" {
		t.Error("the mid 200 towards 1:", mid, ok)
	}
	if mid, ok := impl.SimplestIn(ratOf(t, -1, 200), nought); !ok || ratText(t, mid) != "-1/201" {
		t.Error("the mid 200 towards 0 from below:", mid, ok)
	}
	wantZero(t, impl.SimplestIn, nought, ratOf(t, 1, 201))
	wantZero(t, impl.SimplestIn, ratOf(t, 200, 201), one)
	wantZero(t, impl.SimplestIn, ratOf(t, -1, 201), nought)
	wantZero(t, impl.SimplestIn, nought, over(positive(1), most()))
}

func TestSimplestAtTheLimit(t *testing.T) {
	half := positive(append(limbs(39, 0), 32768)...)
	less, _ := impl.SubBig(half, positive(1))
	more, _ := impl.AddBig(half, positive(1))
	if mid, ok := impl.SimplestIn(whole(less), whole(half)); !ok || !sameRat(mid, over(most(), positive(2))) {
		t.Error("a mid of 40 limbs:", mid, ok)
	}
	if mid, ok := impl.SimplestIn(whole(turned(half)), whole(turned(less))); !ok || !sameRat(mid, over(turned(most()), positive(2))) {
		t.Error("a mid of 40 limbs below 0:", mid, ok)
	}
	wantZero(t, impl.SimplestIn, whole(half), whole(more))
	wantZero(t, impl.SimplestIn, whole(turned(more)), whole(turned(half)))
	wantZero(t, impl.SimplestIn, over(most(), positive(2)), whole(half))
	nearly, _ := impl.SubBig(most(), positive(2))
	if next, ok := impl.SimplestIn(whole(nearly), whole(most())); !ok || !sameRat(next, whole(positive(append([]int{top - 1}, limbs(39, top)...)...))) {
		t.Error("one less than the greatest number:", next, ok)
	}
}
