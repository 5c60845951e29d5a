package tests

import (
	"math/big"
	"strings"
	"testing"

	"loop.example/g00409/impl"
)

// A rooted is a polynomial and a span that is isolating for it.
type rooted struct {
	p []impl.Rat
	s impl.Span
}

func checkIsolating(t *testing.T, p []impl.Rat, s impl.Span) bool {
	t.Helper()
	is, ok := impl.IsIsolating(p, s)
	if want := plainRootIn(p, s).isAlone(); is != want || !ok {
		t.Fatalf("IsIsolating %v %v: %v %v, want %v", p, s, is, ok, want)
	}
	return is
}

func checkRefined(t *testing.T, p []impl.Rat, s impl.Span, times int) {
	t.Helper()
	x, fits := plainRootIn(p, s), true
	for range times {
		x = x.half()
		fits = fits && isPlainPlace(x.lo) && isPlainPlace(x.hi)
	}
	near, ok := impl.RefineRoot(p, s, times)
	if !fits {
		if ok || !sameSpan(near, impl.Span{}) {
			t.Fatalf("RefineRoot %v %v %d: %v %v, want the zero answer", p, s, times, near, ok)
		}
		return
	}
	if !ok || !sameSpan(near, x.span()) {
		t.Fatalf("RefineRoot %v %v %d: %v %v, want %v", p, s, times, near, ok, x.span())
	}
}

func checkSignAt(t *testing.T, one rooted, q []impl.Rat) int {
	t.Helper()
	n, ok := impl.SignAtRoot(one.p, one.s, q)
	wantCount(t, "SignAtRoot "+polyText(t, one.p)+", "+spanText(t, one.s)+", "+polyText(t, q), n, ok, plainRootIn(one.p, one.s).signOf(plainCoefs(q)))
	return n
}

func checkAgainst(t *testing.T, one, other rooted) int {
	t.Helper()
	n, ok := impl.CompareRoots(one.p, one.s, other.p, other.s)
	want := plainRootIn(one.p, one.s).against(plainRootIn(other.p, other.s))
	wantCount(t, "CompareRoots "+polyText(t, one.p)+", "+spanText(t, one.s)+", "+polyText(t, other.p)+", "+spanText(t, other.s), n, ok, want)
	return n
}

func checkFloor(t *testing.T, one rooted) {
	t.Helper()
	floor, ok := impl.FloorOfRoot(one.p, one.s)
	if want := plainRootIn(one.p, one.s).floor(); !ok || !sameBig(floor, fromPlain(want)) {
		t.Fatalf("FloorOfRoot %s %s: %v %v, want %v", polyText(t, one.p), spanText(t, one.s), floor, ok, want)
	}
}

func TestSpanTexts(t *testing.T) {
	for _, c := range []struct {
		p    []impl.Rat
		want string
	}{
		{wholePoly(-2, 0, 1), "-3 0; 0 3"},
		{wholePoly(2, 0, 1), ""},
		{wholePoly(7, -3), "-10/3 10/3"},
		{wholePoly(0, 5), "-1 1"},
		{wholePoly(0, 0, 0, 0, -2), "-1 1"},
		{wholePoly(1, -4, 6, -4, 1), "-7 7"},
		{wholePoly(1, 0, 0, 0, 1), ""},
		// The first middle, 0, is a root: it is at the end of the lower half.
		{wholePoly(0, 1, 1), "-2 -1; -1 0"},
		{wholePoly(0, -1, 1), "-2 0; 0 2"},
		{wholePoly(0, -1, 0, 1), "-2 -1; -1 0; 0 2"},
		{wholePoly(24, -50, 35, -10, 1), "0 51/32; 51/32 153/64; 153/64 51/16; 51/16 51/8"},
		{madeOf(t, root(2, 3), noRoot(), root(-7, 1)), "-22/3 0; 0 22/3"},
	} {
		spans, ok := impl.IsolateRoots(c.p)
		texts := []string{}
		for _, s := range spans {
			texts = append(texts, spanText(t, s))
		}
		if got := strings.Join(texts, "; "); got != c.want || !ok {
			t.Errorf("IsolateRoots %s: %q %v, want %q", polyText(t, c.p), got, ok, c.want)
		}
	}
}

func TestSpansOfRoots(t *testing.T) {
	for _, p := range edgeRoots(t) {
		wantSpans(t, p)
	}
	for _, p := range smallPolys(impl.MaxRootsCoefs) {
		if len(p) >= 2 {
			wantSpans(t, p)
		}
	}
	r := fixed(60)
	for range 200 {
		wantSpans(t, someRoots(r))
		wantSpans(t, someMade(t, r))
	}
}

// Roots that lie ever nearer to each other need ever more halves, till a middle has a limb too many in its Den.
func TestSpansMeetPlacesAndGoBeyond(t *testing.T) {
	longest, refused := 0, 0
	for _, u := range []int{2, 3, 50, 300, 1000, 4000, 4700, 6000, 6700, 7000, 9000, top} {
		bits, ok := wantSpans(t, mignotte(u))
		if ok {
			longest = max(longest, bits)
		} else {
			refused++
			wantZero(t, impl.IsolateRoots, mignotte(u))
		}
	}
	if longest != 16*placeLimbs || refused == 0 {
		t.Error("the longest Den had bits:", longest, "and so many were refused:", refused)
	}
}

func TestIsolatingAtEnds(t *testing.T) {
	p := madeOf(t, root(-2, 1), root(1, 2), root(1, 2), root(3, 1))
	for _, c := range []struct {
		a, aDen, b, bDen int
		want             bool
	}{
		{-3, 1, -2, 1, true}, {-2, 1, 0, 1, false}, {-2, 1, 1, 2, true}, {-2, 1, 1, 1, true}, {-2, 1, 3, 1, false}, {1, 2, 3, 1, true}, {1, 2, 2, 1, false}, {-3, 1, 3, 1, false},
		{-3, 1, 0, 1, true}, {-3, 1, 1, 1, false}, {3, 1, 4, 1, false}, {4, 1, 5, 1, false}, {-9, 1, 9, 1, false}, {0, 1, 1, 1, true},
		{-2, 1, -2, 1, true}, {1, 2, 1, 2, true}, {3, 1, 3, 1, true}, {0, 1, 0, 1, false}, {-1, 2, -1, 2, false}, {5, 1, 5, 1, false},
	} {
		s := between(ratOf(t, c.a, c.aDen), ratOf(t, c.b, c.bDen))
		if is, ok := impl.IsIsolating(p, s); is != c.want || !ok {
			t.Errorf("IsIsolating %s: %v %v", spanText(t, s), is, ok)
		}
	}
}

func TestIsolatingSpans(t *testing.T) {
	far := farPlaces()
	ends := []impl.Rat{far[0], far[1], far[3], far[4], far[6], ratOf(t, -1, 1), ratOf(t, 0, 1), ratOf(t, 1, 2), ratOf(t, 1, 1), ratOf(t, 2, 1), ratOf(t, 7, 3)}
	for _, p := range edgeRoots(t) {
		for _, s := range spansOf(ends) {
			checkIsolating(t, p, s)
		}
	}
	r := fixed(61)
	for range 300 {
		p := someMade(t, r)
		checkIsolating(t, p, someSpanOf(t, r, p))
	}
}

func TestRefinedTexts(t *testing.T) {
	two := wholePoly(-2, 0, 1)
	for _, c := range []struct {
		p     []impl.Rat
		s     impl.Span
		times int
		want  string
	}{
		{two, between(ratOf(t, 0, 1), ratOf(t, 3, 1)), 0, "0 3"},
		{two, between(ratOf(t, 0, 1), ratOf(t, 3, 1)), 1, "0 3/2"},
		{two, between(ratOf(t, 0, 1), ratOf(t, 3, 1)), 2, "3/4 3/2"},
		{two, between(ratOf(t, 0, 1), ratOf(t, 3, 1)), 8, "45/32 363/256"},
		{two, between(ratOf(t, -3, 1), ratOf(t, 0, 1)), 2, "-3/2 -3/4"},
		// A middle that is the root is at the end of the lower half, and stays there.
		{wholePoly(-3, 2), between(ratOf(t, 1, 1), ratOf(t, 2, 1)), 1, "1 3/2"},
		{wholePoly(-3, 2), between(ratOf(t, 1, 1), ratOf(t, 2, 1)), 3, "11/8 3/2"},
		{wholePoly(0, 0, 1), between(ratOf(t, -1, 1), ratOf(t, 0, 1)), 24, "-1/16777216 0"},
		{wholePoly(0, 0, 1), between(ratOf(t, -1, 1), ratOf(t, 1, 1)), 24, "-1/8388608 0"},
		// A root at Lo is not that of the span.
		{wholePoly(0, -1, 1), between(ratOf(t, 0, 1), ratOf(t, 1, 1)), 2, "3/4 1"},
		{wholePoly(0, -1, 1), between(ratOf(t, 0, 1), ratOf(t, 4, 1)), 2, "0 1"},
		// A span of one place stays.
		{wholePoly(0, -1, 1), between(ratOf(t, 1, 1), ratOf(t, 1, 1)), 24, "1 1"},
		{wholePoly(-2, 3), between(ratOf(t, 2, 3), ratOf(t, 2, 3)), 1, "2/3 2/3"},
		{wholePoly(-2, 3), between(ratOf(t, 2, 3), ratOf(t, 2, 3)), 0, "2/3 2/3"},
	} {
		s, ok := impl.RefineRoot(c.p, c.s, c.times)
		if !ok {
			t.Errorf("RefineRoot %s %s %d: refused", polyText(t, c.p), spanText(t, c.s), c.times)
		} else if got := spanText(t, s); got != c.want {
			t.Errorf("RefineRoot %s %s %d: %q, want %q", polyText(t, c.p), spanText(t, c.s), c.times, got, c.want)
		}
	}
}

func TestRefinedRoots(t *testing.T) {
	for _, p := range edgeRoots(t) {
		for _, s := range isolated(t, p) {
			for _, times := range []int{0, 1, 2, 7, 23, mostHalves} {
				checkRefined(t, p, s, times)
			}
		}
	}
	r := fixed(62)
	for range 150 {
		p := someRoots(r)
		for _, s := range isolated(t, p) {
			checkRefined(t, p, s, r.IntN(mostHalves+1))
		}
	}
}

// Of each span so many halves have places as ends, and one more has not: the Den of a middle has a limb too many then, or its Num.
func TestRefinedMeetsPlacesAndGoesBeyond(t *testing.T) {
	one, far := positive(1), positive(limbs(placeLimbs, top)...)
	small, half := over(one, powerOf(3)), over(one, positive(0, 0, 0, 32768))
	for i, c := range []struct {
		p      []impl.Rat
		s      impl.Span
		places int
	}{
		{wholePoly(0, 1), between(turnedRat(small), small), 16}, {wholePoly(0, 1), between(turnedRat(half), half), 1}, {wholePoly(0, 0, 1), between(turnedRat(half), ratOf(t, 0, 1)), 0},
		{wholePoly(0, 1), between(turnedRat(small), ratOf(t, 0, 1)), 15}, {wholePoly(0, 1, 1), between(turnedRat(small), ratOf(t, 0, 1)), 15},
		{wholePoly(0, 1), between(turnedRat(over(one, far)), over(one, far)), 1}, {wholePoly(0, 1), between(ratOf(t, -1, 1), over(positive(2), far)), 0}, {wholePoly(0, 1), between(ratOf(t, -1, 1), over(one, far)), 24},
		{wholePoly(-1, 1), between(ratOf(t, 0, 1), over(far, powerOf(3))), 15}, {wholePoly(-1, 1), between(over(positive(1, 0, 0, 65535), far), over(far, powerOf(3))), 0},
		// The first middle is none, though two halves on both ends were places again: no roots are counted up to it.
		{wholePoly(0, 1), between(over(negative(1), mustRead(t, "12157665459056928801")), over(positive(2), mustRead(t, "4052555153018976267"))), 0},
	} {
		if c.places > 0 {
			checkRefined(t, c.p, c.s, c.places)
			refined(t, c.p, c.s, c.places)
		}
		for times := c.places + 1; times <= mostHalves; times += 1 + times/2 {
			if s, ok := impl.RefineRoot(c.p, c.s, times); ok {
				t.Errorf("row %d: RefineRoot %d times: %v", i, times, s)
			}
			wantZero(t, impl.RefineRoot, c.p, c.s, times)
		}
		refined(t, c.p, c.s, 0)
	}
}

// A span of one place stays also where a half would have a limb too many.
func TestRefinedPlaceStays(t *testing.T) {
	long := over(positive(top), positive(top-1))
	p := []impl.Rat{turnedRat(long), whole(positive(1))}
	for times := range mostHalves + 1 {
		if s := refined(t, p, onePlace(long), times); !sameSpan(s, onePlace(long)) {
			t.Fatalf("%d times: %v", times, s)
		}
	}
}

func TestSignAtRoots(t *testing.T) {
	two := rooted{wholePoly(-2, 0, 1), between(ratOf(t, 0, 1), ratOf(t, 3, 1))}
	less := rooted{two.p, between(ratOf(t, -3, 1), ratOf(t, 0, 1))}
	for _, c := range []struct {
		one  rooted
		q    []impl.Rat
		want int
	}{
		{two, wholePoly(-1, 1), 1}, {two, wholePoly(1, -1), -1}, {two, wholePoly(-3, 2), -1}, {two, wholePoly(0, 1), 1}, {two, wholePoly(0, -1), -1}, {two, wholePoly(0, 0, 1), 1},
		{two, two.p, 0}, {two, wholePoly(2, 0, -1), 0}, {two, wholePoly(0, -2, 0, 1), 0}, {two, wholePoly(4, 0, -4, 0, 1), 0}, {two, wholePoly(-4, 0, 0, 0, 1), 0}, {two, noRoot(), 1},
		{less, wholePoly(-1, 1), -1}, {less, wholePoly(3, 2), 1}, {less, two.p, 0}, {less, wholePoly(0, 1), -1}, {less, wholePoly(0, -2, 0, 1), 0}, {less, wholePoly(-2, -1, 1), 1},
		// Roots on either side of it, and ever nearer.
		{two, wholePoly(-7, 5), 1}, {two, wholePoly(-17, 12), -1}, {two, wholePoly(-41, 29), 1}, {two, wholePoly(-47321, 33461), 1}, {two, wholePoly(-19601, 13860), -1},
		{less, wholePoly(47321, 33461), -1}, {less, wholePoly(19601, 13860), 1},
		// A span of one place; a root at Hi; another root at Lo, which is one of both or of neither.
		{rooted{wholePoly(0, -1, 1), onePlace(ratOf(t, 1, 1))}, wholePoly(-1, 0, 1), 0}, {rooted{wholePoly(0, -1, 1), onePlace(ratOf(t, 1, 1))}, wholePoly(-2, 0, 1), -1},
		{rooted{wholePoly(0, -1, 1), between(ratOf(t, 0, 1), ratOf(t, 1, 1))}, wholePoly(0, 1), 1}, {rooted{wholePoly(0, -1, 1), between(ratOf(t, 0, 1), ratOf(t, 1, 1))}, wholePoly(-2, 0, 1), -1},
		{rooted{wholePoly(0, -1, 1), between(ratOf(t, 0, 1), ratOf(t, 3, 1))}, wholePoly(0, -1), -1}, {rooted{wholePoly(0, -1, 1), between(ratOf(t, 0, 1), ratOf(t, 3, 1))}, wholePoly(-1, 2), 1},
		{rooted{wholePoly(0, -1, 1), between(ratOf(t, 0, 1), ratOf(t, 3, 1))}, wholePoly(1, -1), 0}, {rooted{wholePoly(0, -1, 1), between(ratOf(t, 0, 1), ratOf(t, 3, 1))}, wholePoly(0, -1, 1), 0},
		{rooted{wholePoly(0, 2, 0, -1), between(ratOf(t, 0, 1), ratOf(t, 2, 1))}, wholePoly(0, -1), -1}, {rooted{wholePoly(0, 2, 0, -1), between(ratOf(t, 0, 1), ratOf(t, 2, 1))}, wholePoly(3, -2), 1},
	} {
		n, ok := impl.SignAtRoot(c.one.p, c.one.s, c.q)
		if n != c.want || !ok {
			t.Errorf("SignAtRoot %s, %s, %s: %d %v, want %d", polyText(t, c.one.p), spanText(t, c.one.s), polyText(t, c.q), n, ok, c.want)
		}
	}
}

// manyRooted are roots of few polynomials, told by all isolating spans with ends out of those given.
func manyRooted(t *testing.T, ends []impl.Rat) []rooted {
	t.Helper()
	lists := [][]impl.Rat{
		wholePoly(-2, 0, 1), wholePoly(2, 0, -1), wholePoly(0, -2, 0, 1), wholePoly(4, 0, -4, 0, 1), wholePoly(-1, 0, 1), wholePoly(-1, 2), wholePoly(0, 3), wholePoly(-7, 5),
		wholePoly(0, -1, 0, 1), wholePoly(2, -5, 4, -1), wholePoly(1, -4, 6, -4, 1), madeOf(t, root(1, 1), wholePoly(-2, 0, 1)), madeOf(t, root(1, 2), root(1, 1), noRoot()),
		madeOf(t, root(-17, 12), root(17, 12)), madeOf(t, root(7, 5), wholePoly(-2, 0, 1)), wholePoly(-1, -1, 1), wholePoly(-1, 3, 0, -1), {ratOf(t, -1, 2), ratOf(t, 0, 1), ratOf(t, 1, 4)},
	}
	all := []rooted{}
	for _, p := range lists {
		for _, s := range append(isolated(t, p), spansOf(ends)...) {
			if plainRootIn(p, s).isAlone() {
				all = append(all, rooted{p, s})
			}
		}
	}
	return all
}

func someEndsOfRoots(t *testing.T) []impl.Rat {
	t.Helper()
	far := farPlaces()
	return []impl.Rat{
		ratOf(t, -2, 1), ratOf(t, -17, 12), ratOf(t, -1, 1), ratOf(t, 0, 1), ratOf(t, 1, 2), ratOf(t, 1, 1), ratOf(t, 7, 5), ratOf(t, 17, 12), ratOf(t, 2, 1), far[0], far[2], far[4], far[5],
	}
}

func TestSignsAndOrdersOfRoots(t *testing.T) {
	all := manyRooted(t, someEndsOfRoots(t))
	r := fixed(63)
	signs, orders := map[int]int{}, map[int]int{}
	for range 1500 {
		one, other := all[r.IntN(len(all))], all[r.IntN(len(all))]
		signs[checkSignAt(t, one, other.p)]++
		orders[checkAgainst(t, one, other)]++
	}
	for _, n := range []int{-1, 0, 1} {
		if signs[n] < 100 || orders[n] < 100 {
			t.Error("signs", signs, "orders", orders)
		}
	}
}

func TestSignsAndOrdersOfSome(t *testing.T) {
	r := fixed(64)
	all := []rooted{}
	for range 120 {
		for _, p := range [][]impl.Rat{someRoots(r), someMade(t, r)} {
			if s := someSpanOf(t, r, p); checkIsolating(t, p, s) {
				all = append(all, rooted{p, s})
			}
		}
	}
	for i, one := range all {
		other := all[r.IntN(i+1)]
		checkSignAt(t, one, other.p)
		checkAgainst(t, one, other)
		checkFloor(t, one)
	}
}

// Both roots are nearer to each other than places can tell apart.
func TestRootsVeryNear(t *testing.T) {
	near := []rooted{}
	for _, u := range []int{top, top - 1, 65000} {
		p := mignotte(u)
		lo, hi := over(positive(1), positive(top, 1)), over(positive(1), positive(64000))
		mid := over(positive(1), positive(u))
		near = append(near, rooted{p, between(lo, mid)}, rooted{p, between(mid, hi)}, rooted{root(1, u), onePlace(mid)}, rooted{root(1, u), between(lo, hi)})
	}
	for _, one := range near {
		if !checkIsolating(t, one.p, one.s) {
			t.Fatalf("%v is not isolating", one)
		}
		checkFloor(t, one)
		for _, other := range near {
			checkSignAt(t, one, other.p)
			checkAgainst(t, one, other)
		}
	}
	third := wholePoly(-2, 0, 1)
	for _, q := range [][]impl.Rat{wholePoly(-47321, 33461), wholePoly(-19601, 13860), {ratOf(t, -65535, 32768), ratOf(t, 0, 1), ratOf(t, 1, 1)}, {ratOf(t, -65535, 32767), ratOf(t, 0, 1), ratOf(t, 1, 1)}, {ratOf(t, -4, 1), ratOf(t, 0, 1), ratOf(t, 0, 1), ratOf(t, 0, 1), ratOf(t, 65534, 65535)}, {ratOf(t, -4, 1), ratOf(t, 1, 65535), ratOf(t, 0, 1), ratOf(t, 0, 1), ratOf(t, 1, 1)}} {
		s := between(ratOf(t, 1, 1), ratOf(t, 2, 1))
		n := checkSignAt(t, rooted{third, s}, q)
		m := checkAgainst(t, rooted{third, s}, rooted{q, s})
		if n == 0 || n != m {
			t.Errorf("%s: sign %d, order %d: it rises where both roots are", polyText(t, q), n, m)
		}
	}
}

func TestOrderOfRoots(t *testing.T) {
	one := rooted{wholePoly(-2, 0, 1), between(ratOf(t, 1, 1), ratOf(t, 2, 1))}
	for _, c := range []struct {
		other rooted
		want  int
	}{
		{one, 0}, {rooted{one.p, between(ratOf(t, 0, 1), ratOf(t, 9, 1))}, 0}, {rooted{wholePoly(-4, 0, 0, 0, 1), between(ratOf(t, 7, 5), ratOf(t, 3, 2))}, 0},
		{rooted{wholePoly(4, 0, -4, 0, 1), between(ratOf(t, 0, 1), ratOf(t, 2, 1))}, 0}, {rooted{wholePoly(0, 2, 0, -1), between(ratOf(t, 0, 1), ratOf(t, 2, 1))}, 0},
		{rooted{one.p, between(ratOf(t, -2, 1), ratOf(t, -1, 1))}, 1}, {rooted{wholePoly(0, 2, 0, -1), between(ratOf(t, -1, 1), ratOf(t, 0, 1))}, 1}, {rooted{wholePoly(0, 2, 0, -1), onePlace(ratOf(t, 0, 1))}, 1},
		{rooted{wholePoly(-7, 5), between(ratOf(t, 1, 1), ratOf(t, 2, 1))}, 1}, {rooted{wholePoly(-7, 5), onePlace(ratOf(t, 7, 5))}, 1}, {rooted{wholePoly(-17, 12), onePlace(ratOf(t, 17, 12))}, -1},
		{rooted{wholePoly(-17, 12), between(ratOf(t, 7, 5), ratOf(t, 17, 12))}, -1}, {rooted{wholePoly(-3, 0, 1), between(ratOf(t, 1, 1), ratOf(t, 2, 1))}, -1}, {rooted{wholePoly(-3, 0, 1), between(ratOf(t, 3, 2), ratOf(t, 2, 1))}, -1},
		{rooted{wholePoly(-1, 1), between(ratOf(t, 0, 1), ratOf(t, 1, 1))}, 1}, {rooted{wholePoly(-2, 1), between(ratOf(t, 1, 1), ratOf(t, 2, 1))}, -1}, {rooted{wholePoly(2, -3, 1), between(ratOf(t, 1, 1), ratOf(t, 2, 1))}, -1},
	} {
		n, ok := impl.CompareRoots(one.p, one.s, c.other.p, c.other.s)
		m, mOk := impl.CompareRoots(c.other.p, c.other.s, one.p, one.s)
		if n != c.want || m != -c.want || !ok || !mOk {
			t.Errorf("CompareRoots with %s, %s: %d %v, the other way %d %v, want %d", polyText(t, c.other.p), spanText(t, c.other.s), n, ok, m, mOk, c.want)
		}
	}
}

func TestFloorTexts(t *testing.T) {
	far := whole(positive(limbs(placeLimbs, top)...))
	wide := between(turnedRat(far), far)
	for _, c := range []struct {
		p    []impl.Rat
		s    impl.Span
		want string
	}{
		{wholePoly(-2, 0, 1), between(ratOf(t, 0, 1), ratOf(t, 3, 1)), "1"}, {wholePoly(-2, 0, 1), between(ratOf(t, -3, 1), ratOf(t, 0, 1)), "-2"}, {wholePoly(-2, 0, 1), between(ratOf(t, 1, 1), ratOf(t, 2, 1)), "1"},
		{wholePoly(-3, 1), wide, "3"}, {wholePoly(3, 1), wide, "-3"}, {wholePoly(0, 7), wide, "0"}, {wholePoly(-1, 2), wide, "0"}, {wholePoly(1, 2), wide, "-1"}, {wholePoly(7, 2), wide, "-4"},
		{wholePoly(-3, 1), onePlace(ratOf(t, 3, 1)), "3"}, {wholePoly(7, 2), onePlace(ratOf(t, -7, 2)), "-4"}, {wholePoly(-7, 2), onePlace(ratOf(t, 7, 2)), "3"}, {wholePoly(0, 1), onePlace(ratOf(t, 0, 1)), "0"},
		{wholePoly(-3, 1), between(ratOf(t, 5, 2), ratOf(t, 3, 1)), "3"}, {wholePoly(-3, 1), between(ratOf(t, 2, 1), ratOf(t, 7, 2)), "3"}, {wholePoly(12, -7, 1), between(ratOf(t, 3, 1), ratOf(t, 4, 1)), "4"},
		{wholePoly(-1, -1, 1), between(ratOf(t, -1, 1), ratOf(t, 0, 1)), "-1"}, {wholePoly(-1, -1, 1), between(ratOf(t, 0, 1), ratOf(t, 2, 1)), "1"}, {wholePoly(1, -1, -1), between(ratOf(t, -2, 1), ratOf(t, 0, 1)), "-2"},
		{[]impl.Rat{whole(negative(top)), over(positive(1), positive(top))}, wide, "4294836225"}, {[]impl.Rat{whole(positive(top)), over(positive(1), positive(top))}, wide, "-4294836225"},
		{[]impl.Rat{whole(positive(top)), over(positive(2), positive(top))}, wide, "-2147418113"},
	} {
		floor, ok := impl.FloorOfRoot(c.p, c.s)
		text, told := impl.BigText(floor)
		if text != c.want || !ok || !told {
			t.Errorf("FloorOfRoot %s, %s: %q %v, want %q", polyText(t, c.p), spanText(t, c.s), text, ok, c.want)
		}
	}
}

func TestFloorsOfRoots(t *testing.T) {
	for _, one := range manyRooted(t, someEndsOfRoots(t)) {
		checkFloor(t, one)
	}
	for _, p := range edgeRoots(t) {
		for _, s := range isolated(t, p) {
			checkFloor(t, rooted{p, s})
		}
	}
}

// Whole roots, the places next to them, and those between: of each the floor is the place below.
func TestFloorsNearWholeNumbers(t *testing.T) {
	for n := -3; n <= 3; n++ {
		for _, c := range []struct{ num, den, want int }{{n, 1, n}, {100*n + 1, 100, n}, {100*n - 1, 100, n - 1}, {2*n + 1, 2, n}} {
			x := big.NewRat(int64(c.num), int64(c.den))
			p := root(int(x.Num().Int64()), int(x.Denom().Int64()))
			for _, s := range append(isolated(t, p), onePlace(fromPlainRat(x)), between(ratOf(t, n-2, 1), fromPlainRat(x)), between(ratOf(t, n-2, 1), ratOf(t, n+2, 1))) {
				floor, ok := impl.FloorOfRoot(p, s)
				if at, is := impl.IntOf(floor); at != c.want || !is || !ok {
					t.Errorf("FloorOfRoot of %d/%d in %s: %d %v", c.num, c.den, spanText(t, s), at, ok)
				}
			}
		}
	}
}
