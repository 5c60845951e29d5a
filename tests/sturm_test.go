package tests

import (
	"math/big"
	"strings"
	"testing"

	"loop.example/g00409/impl"
)

func TestMaxRootsCoefs(t *testing.T) {
	if impl.MaxRootsCoefs != 5 {
		t.Error(impl.MaxRootsCoefs)
	}
}

func TestRootsPoly(t *testing.T) {
	for _, p := range edgeRoots(t) {
		if !impl.RootsPoly(p) {
			t.Errorf("%v has 2 to 5 coefficients of one limb", p)
		}
	}
	for _, p := range wrongRoots(t) {
		if impl.RootsPoly(p) {
			t.Errorf("%v is none", p)
		}
	}
	for n := range 9 {
		p := wholePoly(1, 1, 1, 1, 1, 1, 1, 1)[:n]
		if impl.RootsPoly(p) != (n >= 2 && n <= impl.MaxRootsCoefs) {
			t.Errorf("%d coefficients: %v", n, impl.RootsPoly(p))
		}
	}
}

func TestChainTexts(t *testing.T) {
	for _, c := range []struct {
		p    []impl.Rat
		want string
	}{
		{wholePoly(0, -1, 0, 1), "0 -1 0 1; -1 0 3; 0 1; 1"},
		{wholePoly(0, 1, 0, -1), "0 -1 0 1; -1 0 3; 0 1; 1"},
		{wholePoly(0, 2, 0, 2), "0 1 0 1; 1 0 3; 0 -1; -1"},
		{wholePoly(7, -3), "-7/3 1; 1"},
		{wholePoly(0, 5), "0 1; 1"},
		{wholePoly(-2, 0, 1), "-2 0 1; 0 2; 1"},
		{wholePoly(2, 0, 1), "2 0 1; 0 2; -1"},
		{wholePoly(1, -2, 1), "-1 1; 1"},
		{wholePoly(-1, 3, -3, 1), "-1 1; 1"},
		{wholePoly(1, -4, 6, -4, 1), "-1 1; 1"},
		{wholePoly(0, 0, 0, 0, -3), "0 1; 1"},
		{wholePoly(2, -5, 4, -1), "2 -3 1; -3 2; 1"},
		{wholePoly(1, 0, -2, 0, 1), "-1 0 1; 0 2; 1"},
		{wholePoly(1, 0, 0, 0, 1), "1 0 0 0 1; 0 0 0 4; -1"},
		{wholePoly(-1, 0, 0, 0, 1), "-1 0 0 0 1; 0 0 0 4; 1"},
		{wholePoly(1, 0, 0, 1), "1 0 0 1; 0 0 3; -1"},
		{wholePoly(0, 1, 0, 0, 1), "0 1 0 0 1; 1 0 0 4; 0 -1; -1"},
		{wholePoly(1, 4, 0, 0, 1), "1 4 0 0 1; 4 0 0 4; -1/3 -1; -1"},
		{wholePoly(1, 0, 2, 0, 1), "1 0 1; 0 2; -1"},
		{wholePoly(1, 1, 1, 1, 1), "1 1 1 1 1; 1 2 3 4; -3 -2 -1; -1"},
		{[]impl.Rat{ratOf(t, -1, 4), ratOf(t, 0, 1), ratOf(t, 1, 9)}, "-9/4 0 1; 0 2; 1"},
	} {
		chain, ok := impl.ChainOf(c.p)
		texts := []string{}
		for _, q := range chain {
			texts = append(texts, polyText(t, q))
		}
		if got := strings.Join(texts, "; "); got != c.want || !ok {
			t.Errorf("ChainOf %s: %q %v, want %q", polyText(t, c.p), got, ok, c.want)
		}
	}
}

func TestChains(t *testing.T) {
	for _, p := range edgeRoots(t) {
		wantChain(t, p)
	}
	for _, p := range smallPolys(impl.MaxRootsCoefs) {
		if len(p) >= 2 {
			wantChain(t, p)
		}
	}
	r := fixed(50)
	for range 300 {
		wantChain(t, someRoots(r))
		wantChain(t, someMade(t, r))
	}
}

// A chain is told of each RootsPoly, also where a rest has more limbs than the polynomials of chapter 4.
func TestLongChains(t *testing.T) {
	r := fixed(51)
	longest := 0
	for range 40 {
		p := make([]impl.Rat, impl.MaxRootsCoefs)
		for i := range p {
			p[i] = fromPlainRat(big.NewRat(int64(1+r.IntN(top)), int64(1+r.IntN(top))))
		}
		wantChain(t, p)
		chain, _ := impl.ChainOf(p)
		for _, q := range chain {
			for _, a := range q {
				longest = max(longest, len(a.Num.Limbs), len(a.Den.Limbs))
				if !impl.GoodRat(a) {
					t.Fatalf("ChainOf %v: %v is not good", p, a)
				}
			}
		}
	}
	if longest <= coefLimbs {
		t.Error("no chain is long:", longest)
	}
}

func checkChanges(t *testing.T, p []impl.Rat, x impl.Rat) {
	t.Helper()
	values := []*big.Rat{}
	for _, q := range plainCoefs(p).chain() {
		values = append(values, q.at(plainRat(x)))
	}
	n, ok := impl.ChangesAt(p, x)
	wantCount(t, "ChangesAt", n, ok, plainChanges(values))
}

func checkHasRoot(t *testing.T, p []impl.Rat, x impl.Rat) {
	t.Helper()
	has, ok := impl.HasRoot(p, x)
	if want := plainCoefs(p).at(plainRat(x)).Sign() == 0; has != want || !ok {
		t.Fatalf("HasRoot %v %v: %v %v, want %v", p, x, has, ok, want)
	}
}

func checkCounts(t *testing.T, p []impl.Rat, a, b impl.Rat) {
	t.Helper()
	n, ok := impl.CountRoots(p, a, b)
	wantCount(t, "CountRoots", n, ok, plainCoefs(p).unlikeUpTo(plainRat(a), plainRat(b)))
	wantBudan(t, p, a, b)
}

func checkBound(t *testing.T, p []impl.Rat) {
	t.Helper()
	q := plainCoefs(p).withLastOne()
	want := new(big.Rat)
	for _, a := range q[:len(q)-1] {
		if far := new(big.Rat).Abs(a); far.Cmp(want) > 0 {
			want = far
		}
	}
	want.Add(want, big.NewRat(1, 1))
	bound, ok := impl.RootBound(p)
	wantRat(t, "RootBound", bound, ok, want)
	n, ok := impl.CountAll(p)
	wantCount(t, "CountAll", n, ok, q.unlikeUpTo(new(big.Rat).Neg(want), want))
}

func checkAllCounts(t *testing.T, p []impl.Rat, places []impl.Rat) {
	t.Helper()
	checkBound(t, p)
	for i, a := range places {
		checkChanges(t, p, a)
		checkHasRoot(t, p, a)
		for _, b := range places[i:] {
			from, to := inOrderOf(a, b)
			checkCounts(t, p, from, to)
		}
	}
}

func TestCountsOfSmallPolys(t *testing.T) {
	places := []impl.Rat{ratOf(t, -2, 1), ratOf(t, -1, 1), ratOf(t, -1, 2), ratOf(t, 0, 1), ratOf(t, 2, 3), ratOf(t, 1, 1), ratOf(t, 3, 1)}
	for _, p := range smallPolys(4) {
		if len(p) >= 2 {
			checkAllCounts(t, p, places)
		}
	}
}

func TestCountsOfEdges(t *testing.T) {
	places := append(farPlaces(), ratOf(t, -1, 1), ratOf(t, 0, 1), ratOf(t, 1, 2), ratOf(t, 1, 1), ratOf(t, 2, 1))
	for _, p := range edgeRoots(t) {
		checkAllCounts(t, p, places)
	}
}

func TestCountsOfSome(t *testing.T) {
	r := fixed(52)
	for range 150 {
		places := []impl.Rat{somePlace(t, r), somePlace(t, r), somePlace(t, r)}
		checkAllCounts(t, someRoots(r), places)
		checkAllCounts(t, someMade(t, r), places)
	}
}

// The chain of each has a nought among its values at the place: it is passed over.
func TestChangesWithNoughts(t *testing.T) {
	for _, c := range []struct {
		p       []impl.Rat
		x, want int
	}{
		{wholePoly(0, -1, 0, 1), -2, 3}, {wholePoly(0, -1, 0, 1), -1, 2}, {wholePoly(0, -1, 0, 1), 0, 1}, {wholePoly(0, -1, 0, 1), 1, 0}, {wholePoly(0, -1, 0, 1), 2, 0},
		{wholePoly(-2, 0, 1), 0, 1}, {wholePoly(2, 0, 1), 0, 1}, {wholePoly(1, 0, 0, 0, 1), 0, 1}, {wholePoly(0, 0, 0, 0, 1), 0, 0}, {wholePoly(0, 0, 0, 0, 1), -1, 1},
		{wholePoly(4, 0, -5, 0, 1), 0, 2}, {wholePoly(4, 0, -5, 0, 1), -2, 3}, {wholePoly(4, 0, -5, 0, 1), -3, 4}, {wholePoly(4, 0, -5, 0, 1), 2, 0},
	} {
		n, ok := impl.ChangesAt(c.p, ratOf(t, c.x, 1))
		if n != c.want || !ok {
			t.Errorf("ChangesAt %s %d: %d %v, want %d", polyText(t, c.p), c.x, n, ok, c.want)
		}
	}
}

// A root at the first place does not count, one at the second does.
func TestCountRootsAtEnds(t *testing.T) {
	p := madeOf(t, root(-2, 1), root(1, 2), root(1, 2), root(3, 1))
	for _, c := range []struct{ a, aDen, b, bDen, want int }{
		{-2, 1, 3, 1, 2}, {-3, 1, 3, 1, 3}, {-3, 1, -2, 1, 1}, {-2, 1, 1, 2, 1}, {1, 2, 3, 1, 1}, {1, 2, 299, 100, 0}, {-2, 1, 0, 1, 0}, {3, 1, 9, 1, 0}, {-9, 1, 9, 1, 3},
		{-2, 1, -2, 1, 0}, {1, 2, 1, 2, 0}, {0, 1, 0, 1, 0}, {49, 100, 51, 100, 1}, {-9, 1, -3, 1, 0},
	} {
		n, ok := impl.CountRoots(p, ratOf(t, c.a, c.aDen), ratOf(t, c.b, c.bDen))
		if n != c.want || !ok {
			t.Errorf("%v: %d %v", c, n, ok)
		}
	}
	if n, ok := impl.CountAll(p); n != 3 || !ok {
		t.Error(n, ok)
	}
}

func TestRootsSeveralTimes(t *testing.T) {
	for times := 1; times <= 4; times++ {
		for _, at := range []int{-1, 0, 2} {
			parts := [][]impl.Rat{}
			for range times {
				parts = append(parts, root(at, 3))
			}
			p := madeOf(t, parts...)
			n, ok := impl.CountAll(p)
			wantCount(t, "CountAll", n, ok, 1)
			n, ok = impl.CountRoots(p, ratOf(t, -1, 1), ratOf(t, at, 3))
			wantCount(t, "CountRoots", n, ok, 1)
			n, ok = impl.CountRoots(p, ratOf(t, at, 3), ratOf(t, 1, 1))
			wantCount(t, "CountRoots", n, ok, 0)
			n, ok = impl.BudanCount(p, ratOf(t, -1, 1), ratOf(t, at, 3))
			wantCount(t, "BudanCount", n, ok, times)
			n, ok = impl.BudanCount(p, ratOf(t, at, 3), ratOf(t, 1, 1))
			wantCount(t, "BudanCount", n, ok, 0)
			checkHasRoot(t, p, ratOf(t, at, 3))
		}
	}
}

func TestRootBounds(t *testing.T) {
	half, third := ratOf(t, 1, 2), ratOf(t, -1, 3)
	for _, c := range []struct {
		p    []impl.Rat
		want string
	}{
		{wholePoly(0, 1), "1"}, {wholePoly(0, -1), "1"}, {wholePoly(0, 0, 0, 0, 7), "1"}, {wholePoly(7, -3), "10/3"}, {wholePoly(-7, -3), "10/3"},
		{wholePoly(3, 1, -2, 10), "13/10"}, {wholePoly(3, 1, -2, -10), "13/10"}, {wholePoly(1, -9, 2, 0, 3), "4"}, {wholePoly(-9, 1, 1), "10"},
		{wholePoly(1, 1), "2"}, {wholePoly(1, 2, -4, 2), "3"}, {[]impl.Rat{half, third}, "5/2"}, {[]impl.Rat{third, half}, "5/3"}, {[]impl.Rat{third, third, half, third}, "5/2"},
		{[]impl.Rat{whole(positive(top)), over(positive(1), positive(top))}, "4294836226"},
		{[]impl.Rat{over(positive(top), positive(top-1)), over(positive(top-1), positive(top))}, "8589541381/4294705156"},
	} {
		bound, ok := impl.RootBound(c.p)
		if !ok || ratText(t, bound) != c.want {
			t.Errorf("RootBound %s: %v %v, want %s", polyText(t, c.p), bound, ok, c.want)
		}
	}
}

// All roots of each are no numbers of the line, or some: by signs of coefficients there are as many, or two or four more.
func TestBudanCounts(t *testing.T) {
	for _, c := range []struct {
		p           []impl.Rat
		a, b        impl.Rat
		roots, want int
	}{
		{wholePoly(0, -1, 0, 1), ratOf(t, -2, 1), ratOf(t, 2, 1), 3, 3},
		{wholePoly(0, -1, 0, 1), ratOf(t, -1, 1), ratOf(t, 1, 1), 2, 2},
		{wholePoly(1, 0, 1), ratOf(t, -1, 1), ratOf(t, 1, 1), 0, 2},
		{wholePoly(1, 0, 1), ratOf(t, 1, 1), ratOf(t, 2, 1), 0, 0},
		{wholePoly(5, -4, 1), ratOf(t, 0, 1), ratOf(t, 4, 1), 0, 2},
		{wholePoly(1, 0, 2, 0, 1), ratOf(t, -3, 1), ratOf(t, 3, 1), 0, 4},
		{wholePoly(1, 0, 0, 0, 1), ratOf(t, -1, 1), ratOf(t, 1, 1), 0, 4},
		{wholePoly(-1, 0, 0, 0, 1), ratOf(t, -2, 1), ratOf(t, 2, 1), 2, 4},
		{wholePoly(1, 0, 0, 1), ratOf(t, -2, 1), ratOf(t, 2, 1), 1, 3},
		{wholePoly(1, -2, 1), ratOf(t, 0, 1), ratOf(t, 1, 1), 1, 2},
		{wholePoly(1, -2, 1), ratOf(t, 1, 1), ratOf(t, 2, 1), 0, 0},
		{wholePoly(1, -4, 6, -4, 1), ratOf(t, 0, 1), ratOf(t, 1, 1), 1, 4},
		{wholePoly(-7, 3), ratOf(t, 2, 1), ratOf(t, 7, 3), 1, 1},
		{wholePoly(-7, 3), ratOf(t, 7, 3), ratOf(t, 7, 3), 0, 0},
		{wholePoly(-7, -3), ratOf(t, -9, 1), ratOf(t, 9, 1), 1, 1},
	} {
		n, ok := impl.BudanCount(c.p, c.a, c.b)
		if n != c.want || !ok {
			t.Errorf("BudanCount %s %s %s: %d %v, want %d", polyText(t, c.p), ratText(t, c.a), ratText(t, c.b), n, ok, c.want)
		}
		if n, ok := impl.CountRoots(c.p, c.a, c.b); n != c.roots || !ok {
			t.Errorf("CountRoots %s %s %s: %d %v, want %d", polyText(t, c.p), ratText(t, c.a), ratText(t, c.b), n, ok, c.roots)
		}
	}
}

// Of each the shifted polynomial keeps within the limit of a coefficient, some just so, or goes beyond it; that of the other place is short, but where it is the same place.
func TestBudanLimitMetAndGoneBeyond(t *testing.T) {
	short, one := positive(limbs(3, top)...), positive(1)
	long := []impl.Rat{whole(positive(top)), over(one, positive(top))}
	for i, row := range []struct {
		p    []impl.Rat
		x    impl.Rat
		fits bool
	}{
		{wholePoly(-1, 0, 1), over(one, powerOf(2)), true}, {wholePoly(-1, 0, 1), over(one, short), true}, {wholePoly(-1, 0, 1), over(one, powerOf(3)), false},
		{wholePoly(-1, 0, 1), whole(powerOf(2)), true}, {wholePoly(-1, 0, 1), whole(short), true}, {wholePoly(0, 0, 1), whole(powerOf(3)), false}, {wholePoly(-1, 0, 1), whole(powerOf(3)), true},
		{wholePoly(3, -2, 2), over(one, mustRead(t, "3403561483848679424")), false}, {wholePoly(2, -2, -3), over(powerOf(3), positive(5)), false},
		{wholePoly(5, 0, 0, 1), whole(powerOf(1)), true}, {wholePoly(5, 0, 0, 1), whole(positive(top, top)), true}, {wholePoly(0, 0, 0, 1), whole(powerOf(2)), false},
		{wholePoly(1, 0, 0, 1), over(one, positive(top, top)), true}, {wholePoly(1, 0, 0, 1), over(one, powerOf(2)), false},
		{wholePoly(1, 0, 0, 0, 1), over(one, powerOf(1)), true}, {wholePoly(1, 0, 0, 0, 1), over(one, positive(0, 255)), true}, {wholePoly(1, 0, 0, 0, 1), over(one, positive(0, 256)), false},
		// Two coefficients keep within the limits at all places.
		{wholePoly(7, -3), farPlaces()[0], true}, {wholePoly(7, -3), farPlaces()[1], true}, {long, farPlaces()[2], true}, {long, farPlaces()[3], true},
	} {
		for _, x := range []impl.Rat{row.x, turnedRat(row.x)} {
			for _, near := range []impl.Rat{ratOf(t, 0, 1), ratOf(t, -3, 2), ratOf(t, 2, 1), cloneRat(x)} {
				a, b := inOrderOf(x, near)
				if fits := wantBudan(t, row.p, a, b); fits != row.fits {
					t.Errorf("row %d: BudanCount %s %s %s: %v, want %v", i, polyText(t, row.p), ratText(t, a), ratText(t, b), fits, row.fits)
				}
			}
		}
	}
}

// Only BudanCount is told by shifted polynomials: where these go beyond their limits values and signs of them are told as ever.
func TestCountsWhereShiftsAreTooLong(t *testing.T) {
	tiny, far := over(positive(1), powerOf(3)), ratOf(t, 2, 1)
	p := wholePoly(-1, 0, 1)
	wantZero(t, impl.BudanCount, p, tiny, far)
	wantZero(t, impl.BudanCount, p, turnedRat(far), tiny)
	wantZero(t, impl.BudanCount, p, tiny, tiny)
	n, ok := impl.CountRoots(p, tiny, far)
	wantCount(t, "CountRoots", n, ok, 1)
	n, ok = impl.CountRoots(p, turnedRat(far), tiny)
	wantCount(t, "CountRoots", n, ok, 1)
	n, ok = impl.ChangesAt(p, tiny)
	wantCount(t, "ChangesAt", n, ok, 1)
	checkHasRoot(t, p, tiny)
}

// BudanCount tells just where ShiftPoly does at both places, and then what SignsIn tells of both.
func TestBudanIsSignsOfShifts(t *testing.T) {
	r := fixed(55)
	told := 0
	for range 400 {
		p := someRoots(r)
		a, b := inOrderOf(someRat(r, 1+r.IntN(placeLimbs)), someRat(r, 1+r.IntN(placeLimbs)))
		from, fromTold := impl.ShiftPoly(p, a)
		to, toTold := impl.ShiftPoly(p, b)
		n, ok := impl.BudanCount(p, a, b)
		more, _ := impl.SignsIn(from)
		less, _ := impl.SignsIn(to)
		if !fromTold || !toTold {
			more, less = 0, 0
		}
		if n != more-less || ok != (fromTold && toTold) {
			t.Fatalf("BudanCount %v %v %v: %d %v, but SignsIn tells %d %v and %d %v", p, a, b, n, ok, more, fromTold, less, toTold)
		}
		if ok {
			told++
		}
	}
	if told < 100 || told > 300 {
		t.Error("of 400 were told:", told)
	}
}

func TestHasRoots(t *testing.T) {
	far := over(positive(1), positive(top))
	for _, c := range []struct {
		p    []impl.Rat
		x    impl.Rat
		want bool
	}{
		{wholePoly(7, -3), ratOf(t, 7, 3), true}, {wholePoly(7, -3), ratOf(t, -7, 3), false}, {wholePoly(7, -3), ratOf(t, 7, 4), false},
		{madeOf(t, root(-3, 5), root(1, 2), noRoot()), ratOf(t, -3, 5), true}, {madeOf(t, root(-3, 5), root(1, 2), noRoot()), ratOf(t, 0, 1), false},
		{wholePoly(0, 0, 5), ratOf(t, 0, 1), true}, {wholePoly(1, 0, 5), ratOf(t, 0, 1), false}, {wholePoly(-2, 0, 1), ratOf(t, 99, 70), false},
		{[]impl.Rat{turnedRat(whole(positive(top))), far}, whole(positive(1, top-1)), true}, {[]impl.Rat{far, whole(positive(top))}, over(negative(1), positive(1, top-1)), true},
		{[]impl.Rat{far, whole(positive(top))}, over(positive(1), positive(1, top-1)), false},
	} {
		if has, ok := impl.HasRoot(c.p, c.x); has != c.want || !ok {
			t.Errorf("HasRoot %s %s: %v %v", polyText(t, c.p), ratText(t, c.x), has, ok)
		}
	}
}
