package tests

import (
	"math/big"
	"testing"

	"loop.example/g00409/impl"
)

func TestGoodSpan(t *testing.T) {
	for _, s := range spansOf(edgeRats()) {
		if !impl.GoodSpan(s) {
			t.Errorf("%v is good", s)
		}
	}
	for _, s := range wrongSpans(t) {
		if impl.GoodSpan(s) {
			t.Errorf("%v is not good", s)
		}
	}
}

func TestPointSpan(t *testing.T) {
	for _, a := range append(edgeRats(), smallRats(t, 6)...) {
		s, ok := impl.PointSpan(a)
		wantSpan(t, "PointSpan", s, ok, plainRat(a), plainRat(a))
	}
}

func TestInSpan(t *testing.T) {
	for _, s := range append(spansOf(smallRats(t, 3)), spansOf(fewEnds(t))...) {
		for _, a := range append(smallRats(t, 4), fewEnds(t)...) {
			if in, ok := impl.InSpan(s, a); !ok || in != isWithin(s, plainRat(a)) {
				t.Fatalf("InSpan %v %v: %v %v", s, a, in, ok)
			}
		}
	}
}

// spanDeed is one way to make a span of two, beside what the library's fractions tell of its ends.
type spanDeed struct {
	name string
	own  func(a, b impl.Span) (impl.Span, bool)
	ends func(a, b impl.Span) (*big.Rat, *big.Rat)
}

var (
	addSpanDeed  = spanDeed{"AddSpan", impl.AddSpan, endsOfSum}
	subSpanDeed  = spanDeed{"SubSpan", impl.SubSpan, endsOfDifference}
	mulSpanDeed  = spanDeed{"MulSpan", impl.MulSpan, endsOfProduct}
	joinSpanDeed = spanDeed{"JoinSpan", impl.JoinSpan, endsOfBoth}
)

func spanDeeds() []spanDeed {
	return []spanDeed{addSpanDeed, subSpanDeed, mulSpanDeed, joinSpanDeed}
}

func (d spanDeed) check(t *testing.T, a, b impl.Span) bool {
	t.Helper()
	s, ok := d.own(a, b)
	lo, hi := d.ends(a, b)
	wantSpan(t, d.name, s, ok, lo, hi)
	return ok
}

func endsOfSum(a, b impl.Span) (*big.Rat, *big.Rat) {
	return new(big.Rat).Add(plainRat(a.Lo), plainRat(b.Lo)), new(big.Rat).Add(plainRat(a.Hi), plainRat(b.Hi))
}

func endsOfDifference(a, b impl.Span) (*big.Rat, *big.Rat) {
	return new(big.Rat).Sub(plainRat(a.Lo), plainRat(b.Hi)), new(big.Rat).Sub(plainRat(a.Hi), plainRat(b.Lo))
}

func endsOfProduct(a, b impl.Span) (*big.Rat, *big.Rat) {
	products := []*big.Rat{}
	for _, x := range []impl.Rat{a.Lo, a.Hi} {
		for _, y := range []impl.Rat{b.Lo, b.Hi} {
			products = append(products, new(big.Rat).Mul(plainRat(x), plainRat(y)))
		}
	}
	return leastAndGreatest(products...)
}

func endsOfBoth(a, b impl.Span) (*big.Rat, *big.Rat) {
	return leastAndGreatest(plainRat(a.Lo), plainRat(a.Hi), plainRat(b.Lo), plainRat(b.Hi))
}

// endsOfSquare goes by signs, which the program does not.
func endsOfSquare(a impl.Span) (*big.Rat, *big.Rat) {
	low := new(big.Rat).Mul(plainRat(a.Lo), plainRat(a.Lo))
	high := new(big.Rat).Mul(plainRat(a.Hi), plainRat(a.Hi))
	switch {
	case plainRat(a.Lo).Sign() > 0:
		return low, high
	case plainRat(a.Hi).Sign() < 0:
		return high, low
	}
	_, most := leastAndGreatest(low, high)
	return new(big.Rat), most
}

func checkSquare(t *testing.T, a impl.Span) bool {
	t.Helper()
	s, ok := impl.SquareSpan(a)
	lo, hi := endsOfSquare(a)
	wantSpan(t, "SquareSpan", s, ok, lo, hi)
	return ok
}

func checkWidth(t *testing.T, a impl.Span) bool {
	t.Helper()
	w, ok := impl.WidthOf(a)
	wantRat(t, "WidthOf", w, ok, new(big.Rat).Sub(plainRat(a.Hi), plainRat(a.Lo)))
	return ok
}

func checkInvert(t *testing.T, a impl.Span) {
	t.Helper()
	s, ok := impl.InvertSpan(a)
	if isWithin(a, new(big.Rat)) {
		if ok || !sameSpan(s, impl.Span{}) {
			t.Fatalf("InvertSpan %v: %v %v, want the zero answer: 0 is in it", a, s, ok)
		}
		return
	}
	wantSpan(t, "InvertSpan", s, ok, new(big.Rat).Inv(plainRat(a.Hi)), new(big.Rat).Inv(plainRat(a.Lo)))
}

func TestSpanArithmetic(t *testing.T) {
	small, few := spansOf(smallRats(t, 3)), spansOf(fewEnds(t))
	pairs := [][2]impl.Span{}
	for _, l := range [][]impl.Span{small, few} {
		for _, a := range l {
			for _, b := range l {
				pairs = append(pairs, [2]impl.Span{a, b})
			}
		}
	}
	r := fixed(31)
	for range 300 {
		pairs = append(pairs, [2]impl.Span{someSpan(r, 20), someSpan(r, 20)}, [2]impl.Span{someSpan(r, impl.MaxLimbs), someSpan(r, 3)})
	}
	for _, p := range pairs {
		for _, d := range spanDeeds() {
			d.check(t, p[0], p[1])
		}
	}
}

func TestSpanByItself(t *testing.T) {
	all := append(spansOf(smallRats(t, 5)), spansOf(edgeRats())...)
	r := fixed(32)
	for range 300 {
		all = append(all, someSpan(r, 10), someSpan(r, 20), someSpan(r, impl.MaxLimbs))
	}
	for _, a := range all {
		checkSquare(t, a)
		checkInvert(t, a)
		checkWidth(t, a)
	}
}

// Ends as pairs of Num and Den; what is told as texts, `-` where it is refused.
func TestSpansWrittenOut(t *testing.T) {
	rows := []struct {
		a, b                                [4]int
		sum, less, product, square, inverse string
	}{
		{[4]int{1, 2, 3, 1}, [4]int{2, 1, 5, 1}, "5/2 8", "-9/2 1", "1 15", "1/4 9", "1/3 2"},
		{[4]int{-1, 1, 2, 1}, [4]int{1, 2, 3, 1}, "-1/2 5", "-4 3/2", "-3 6", "0 4", "-"},
		{[4]int{-3, 1, 2, 1}, [4]int{-5, 1, 7, 1}, "-8 9", "-10 7", "-21 15", "0 9", "-"},
		{[4]int{-3, 1, 2, 1}, [4]int{-5, 1, -4, 1}, "-8 -2", "1 7", "-10 15", "0 9", "-"},
		{[4]int{0, 1, 2, 1}, [4]int{-1, 1, 1, 1}, "-1 3", "-1 3", "-2 2", "0 4", "-"},
		{[4]int{-2, 1, 0, 1}, [4]int{0, 1, 3, 1}, "-2 3", "-5 0", "-6 0", "0 4", "-"},
		{[4]int{-2, 1, 0, 1}, [4]int{-3, 1, 0, 1}, "-5 0", "-2 3", "0 6", "0 4", "-"},
		{[4]int{-3, 1, -1, 2}, [4]int{2, 1, 4, 1}, "-1 7/2", "-7 -5/2", "-12 -1", "1/4 9", "-2 -1/3"},
		{[4]int{-3, 1, -1, 2}, [4]int{-4, 1, -2, 1}, "-7 -5/2", "-1 7/2", "1 12", "1/4 9", "-2 -1/3"},
		{[4]int{-3, 2, -3, 2}, [4]int{2, 3, 2, 3}, "-5/6 -5/6", "-13/6 -13/6", "-1 -1", "9/4 9/4", "-2/3 -2/3"},
		{[4]int{0, 1, 0, 1}, [4]int{-4, 1, 9, 1}, "-4 9", "-9 4", "0 0", "0 0", "-"},
		{[4]int{0, 1, 0, 1}, [4]int{0, 1, 0, 1}, "0 0", "0 0", "0 0", "0 0", "-"},
	}
	text := func(s impl.Span, ok bool) string {
		if !ok {
			return "-"
		}
		return spanText(t, s)
	}
	for i, row := range rows {
		a := between(ratOf(t, row.a[0], row.a[1]), ratOf(t, row.a[2], row.a[3]))
		b := between(ratOf(t, row.b[0], row.b[1]), ratOf(t, row.b[2], row.b[3]))
		if s := text(impl.AddSpan(a, b)); s != row.sum {
			t.Errorf("row %d: sum %s, want %s", i, s, row.sum)
		}
		if s := text(impl.SubSpan(a, b)); s != row.less {
			t.Errorf("row %d: less %s, want %s", i, s, row.less)
		}
		if s := text(impl.MulSpan(a, b)); s != row.product {
			t.Errorf("row %d: product %s, want %s", i, s, row.product)
		}
		if s := text(impl.SquareSpan(a)); s != row.square {
			t.Errorf("row %d: square %s, want %s", i, s, row.square)
		}
		if s := text(impl.InvertSpan(a)); s != row.inverse {
			t.Errorf("row %d: inverse %s, want %s", i, s, row.inverse)
		}
	}
}

func TestJoinSpansThatDoNotMeet(t *testing.T) {
	low, high := between(ratOf(t, -5, 1), ratOf(t, -9, 2)), between(ratOf(t, 7, 3), ratOf(t, 8, 3))
	wide := between(ratOf(t, -6, 1), ratOf(t, 3, 1))
	rows := []struct {
		a, b impl.Span
		text string
	}{
		{low, high, "-5 8/3"}, {high, low, "-5 8/3"}, {low, wide, "-6 3"}, {wide, high, "-6 3"}, {low, low, "-5 -9/2"},
		{between(ratOf(t, 0, 1), ratOf(t, 2, 1)), between(ratOf(t, 1, 1), ratOf(t, 3, 1)), "0 3"},
		{between(ratOf(t, 0, 1), ratOf(t, 1, 1)), between(ratOf(t, 1, 1), ratOf(t, 1, 1)), "0 1"},
	}
	for i, row := range rows {
		if s, ok := impl.JoinSpan(row.a, row.b); !ok || spanText(t, s) != row.text {
			t.Errorf("row %d: %v %v, want %s", i, s, ok, row.text)
		}
	}
}

func TestSpanLimitMetAndGoneBeyond(t *testing.T) {
	one, nearly := ratOf(t, 1, 1), whole(positive(append([]int{top - 1}, limbs(39, top)...)...))
	greatest, least := whole(most()), whole(turned(most()))
	long := whole(positive(limbs(20, top)...))
	point := func(a impl.Rat) impl.Span { return between(a, a) }
	rows := []struct {
		deed spanDeed
		a, b impl.Span
		fits bool
	}{
		{addSpanDeed, between(one, nearly), point(one), true},
		{addSpanDeed, between(one, greatest), point(one), false},
		{addSpanDeed, between(turnedRat(nearly), one), point(turnedRat(one)), true},
		{addSpanDeed, between(least, one), point(turnedRat(one)), false},
		{subSpanDeed, between(one, nearly), between(turnedRat(one), one), true},
		{subSpanDeed, between(one, greatest), between(turnedRat(one), one), false},
		{subSpanDeed, between(turnedRat(nearly), one), between(turnedRat(one), one), true},
		{subSpanDeed, between(least, one), between(turnedRat(one), one), false},
		{mulSpanDeed, between(one, greatest), between(turnedRat(one), one), true},
		{mulSpanDeed, between(one, whole(powerOf(19))), between(one, whole(powerOf(20))), true},
		{mulSpanDeed, between(one, whole(powerOf(20))), between(one, whole(powerOf(20))), false},
		{mulSpanDeed, between(turnedRat(whole(powerOf(20))), one), between(one, whole(powerOf(20))), false},
		{mulSpanDeed, between(over(positive(1), powerOf(19)), one), between(over(positive(1), powerOf(20)), one), true},
		{mulSpanDeed, between(over(positive(1), powerOf(20)), one), between(over(positive(1), powerOf(20)), one), false},
		{mulSpanDeed, point(long), between(long, whole(powerOf(20))), true},
		{mulSpanDeed, between(long, whole(powerOf(20))), between(turnedRat(one), whole(powerOf(20))), false},
		{joinSpanDeed, point(least), point(greatest), true},
	}
	for i, row := range rows {
		if ok := row.deed.check(t, row.a, row.b); ok != row.fits {
			t.Errorf("row %d: %v, want %v", i, ok, row.fits)
		}
	}
}

func TestSquareAndWidthAtTheLimit(t *testing.T) {
	one, nought := ratOf(t, 1, 1), ratOf(t, 0, 1)
	root := positive(append(limbs(19, 0), 256)...) // 2 to the 312: its square is powerOf(39)
	squares := []struct {
		a    impl.Span
		fits bool
	}{
		{between(one, whole(positive(limbs(20, top)...))), true},
		{between(one, whole(powerOf(20))), false},
		{between(nought, whole(root)), true},
		{between(turnedRat(whole(powerOf(20))), nought), false},
		{between(turnedRat(whole(powerOf(20))), one), false},
		{between(over(positive(1), root), one), true},
		{between(over(positive(1), powerOf(20)), one), false},
		{between(turnedRat(one), over(negative(1), powerOf(20))), false},
		{between(over(negative(1), powerOf(20)), one), true},
	}
	for i, row := range squares {
		if ok := checkSquare(t, row.a); ok != row.fits {
			t.Errorf("square %d: %v, want %v", i, ok, row.fits)
		}
	}
	widths := []struct {
		a    impl.Span
		fits bool
	}{
		{between(nought, whole(most())), true},
		{between(turnedRat(one), whole(most())), false},
		{between(whole(turned(most())), nought), true},
		{between(whole(turned(most())), one), false},
		{between(whole(turned(most())), whole(most())), false},
		{between(over(positive(1), powerOf(20)), over(positive(1), positive(limbs(20, top)...))), true},
		{between(over(positive(1), positive(append([]int{1}, powerOf(19).Limbs...)...)), over(positive(1), powerOf(20))), false},
	}
	for i, row := range widths {
		if ok := checkWidth(t, row.a); ok != row.fits {
			t.Errorf("width %d: %v, want %v", i, ok, row.fits)
		}
	}
}

// On the way to these, parts have far more than MaxLimbs limbs: only what comes out has to fit.
func TestSpanPartsLongerThanWhatIsTold(t *testing.T) {
	one, tiny := ratOf(t, 1, 1), over(positive(1), most())
	part := over(positive(1), powerOf(30))
	other := over(positive(1), positive(append([]int{1}, limbs(30, top)...)...))
	long := between(turnedRat(tiny), over(most(), powerOf(39)))
	text := func(s impl.Span, ok bool) string {
		t.Helper()
		if !ok {
			t.Error("refused")
			return ""
		}
		return spanText(t, s)
	}
	if s := text(impl.SubSpan(between(tiny, tiny), between(tiny, tiny))); s != "0 0" {
		t.Error("less itself:", s)
	}
	if s := text(impl.AddSpan(between(tiny, tiny), between(turnedRat(tiny), turnedRat(tiny)))); s != "0 0" {
		t.Error("with the other side:", s)
	}
	// Of the four products the one of both parts has over 60 limbs, but is neither the least nor the greatest.
	if s := text(impl.MulSpan(between(turnedRat(one), part), between(turnedRat(one), other))); s != ratText(t, turnedRat(part))+" 1" {
		t.Error("the least and the greatest product:", s)
	}
	if s := text(impl.SquareSpan(between(turnedRat(one), part))); s != "0 1" {
		t.Error("the square of a part is not told:", s)
	}
	if w, ok := impl.WidthOf(between(turnedRat(tiny), over(positive(1), most()))); !ok || !sameRat(w, over(positive(2), most())) {
		t.Error("twice the least part:", w, ok)
	}
	if s, ok := impl.JoinSpan(long, between(tiny, one)); !ok || !sameSpan(s, long) {
		t.Error("joined:", s, ok)
	}
	if s := text(impl.RoundOut(between(turnedRat(tiny), tiny), 64)); s != "-1/18446744073709551616 1/18446744073709551616" {
		t.Error("rounded:", s)
	}
	if s := text(impl.RootSpan(tiny, 64)); s != "0 1/18446744073709551616" {
		t.Error("root:", s)
	}
}
