package tests

import (
	"math/big"
	"slices"
	"strings"
	"testing"

	"loop.example/g00409/impl"
)

func someBits() []int {
	return []int{0, 1, 2, 3, 15, 16, 17, 31, 32, 33, 47, 48, 49, 63, 64}
}

// plainDown is the greatest multiple of a step that is at most x: Euclid's division by a Den above 0 goes down.
func plainDown(x *big.Rat, step *big.Rat) *big.Rat {
	many := new(big.Rat).Quo(x, step)
	floor := new(big.Int).Div(many.Num(), many.Denom())
	return new(big.Rat).Mul(new(big.Rat).SetInt(floor), step)
}

func plainUp(x *big.Rat, step *big.Rat) *big.Rat {
	down := plainDown(x, step)
	if down.Cmp(x) < 0 {
		down.Add(down, step)
	}
	return down
}

func checkRound(t *testing.T, s impl.Span, bits int) bool {
	t.Helper()
	out, ok := impl.RoundOut(s, bits)
	step := plainStep(bits)
	wantSpan(t, "RoundOut", out, ok, plainDown(plainRat(s.Lo), step), plainUp(plainRat(s.Hi), step))
	if ok {
		if again, is := impl.RoundOut(out, bits); !is || !sameSpan(again, out) {
			t.Fatalf("RoundOut %v %d again: %v %v", out, bits, again, is)
		}
	}
	return ok
}

func TestRoundOut(t *testing.T) {
	all := append(spansOf(smallRats(t, 5)), spansOf(fewEnds(t))...)
	r := fixed(33)
	for range 100 {
		all = append(all, someSpan(r, 4), someSpan(r, 30), someSpan(r, impl.MaxLimbs))
	}
	for _, s := range all {
		for _, bits := range someBits() {
			checkRound(t, s, bits)
		}
	}
}

func TestRoundOutWrittenOut(t *testing.T) {
	rows := []struct {
		ends [4]int
		bits int
		text string
	}{
		{[4]int{1, 3, 2, 3}, 0, "0 1"}, {[4]int{1, 3, 2, 3}, 1, "0 1"}, {[4]int{1, 3, 2, 3}, 2, "1/4 3/4"}, {[4]int{1, 3, 2, 3}, 3, "1/4 3/4"}, {[4]int{1, 3, 2, 3}, 4, "5/16 11/16"},
		{[4]int{-2, 3, -1, 3}, 0, "-1 0"}, {[4]int{-2, 3, -1, 3}, 2, "-3/4 -1/4"}, {[4]int{-1, 3, 1, 3}, 1, "-1/2 1/2"},
		// Such numbers already: they stay.
		{[4]int{-3, 4, 5, 4}, 2, "-3/4 5/4"}, {[4]int{-3, 4, -3, 4}, 2, "-3/4 -3/4"}, {[4]int{-3, 4, -1, 4}, 5, "-3/4 -1/4"}, {[4]int{-7, 1, -7, 1}, 0, "-7 -7"}, {[4]int{0, 1, 0, 1}, 64, "0 0"}, {[4]int{-2, 1, 3, 1}, 64, "-2 3"},
		// Such numbers with more bits: they do not.
		{[4]int{-3, 4, 5, 4}, 1, "-1 3/2"}, {[4]int{-3, 4, -3, 4}, 0, "-1 0"},
		{[4]int{1, 3, 1, 3}, 64, "6148914691236517205/18446744073709551616 3074457345618258603/9223372036854775808"},
		{[4]int{-1, 3, -1, 3}, 64, "-3074457345618258603/9223372036854775808 -6148914691236517205/18446744073709551616"},
	}
	for i, row := range rows {
		s := between(ratOf(t, row.ends[0], row.ends[1]), ratOf(t, row.ends[2], row.ends[3]))
		if out, ok := impl.RoundOut(s, row.bits); !ok || spanText(t, out) != row.text {
			t.Errorf("row %d: %v %v, want %s", i, out, ok, row.text)
		}
	}
}

// Whole numbers divided by 2 to the bits, with both signs, stay as they are at all bits from theirs on.
func TestRoundOutOfSteps(t *testing.T) {
	r := fixed(34)
	for bits := range 65 {
		step := plainStep(bits)
		for range 5 {
			many := new(big.Rat).SetInt(plain(someBig(r, r.IntN(30))))
			a := fromPlainRat(many.Mul(many, step))
			for _, from := range []int{bits, (bits + 64) / 2, 64} {
				if out, ok := impl.RoundOut(between(a, a), from); !ok || !sameSpan(out, between(a, a)) {
					t.Fatalf("RoundOut of %v with %d bits: %v %v", a, from, out, ok)
				}
			}
		}
	}
}

// nextTo is as near to the least number with a limb too many, in steps of so many bits, as a good fraction that is no such number comes: about as many steps above it (below 0: beneath it).
func nextTo(bits int, steps int64) impl.Rat {
	near := new(big.Rat).SetInt(new(big.Int).Lsh(big.NewInt(1), uint(16*impl.MaxLimbs-bits)))
	den := new(big.Int).Sub(plainStep(bits).Denom(), big.NewInt(1))
	return fromPlainRat(near.Add(near, new(big.Rat).SetFrac(big.NewInt(steps), den)))
}

func TestRoundOutAtTheLimit(t *testing.T) {
	nought, greatest := ratOf(t, 0, 1), whole(most())
	for _, bits := range []int{3, 4, 16, 63, 64} {
		below, above, beyond := nextTo(bits, -1), nextTo(bits, 1), nextTo(bits, 2)
		rows := []struct {
			lo, hi impl.Rat
			fits   bool
		}{
			{below, below, true},
			{nought, below, true},
			{above, above, false},
			{above, greatest, false},
			// Hi has a limb too many in steps, but not in its lowest terms.
			{nought, above, true},
			{nought, beyond, false},
		}
		for i, row := range rows {
			if !impl.GoodRat(row.lo) || !impl.GoodRat(row.hi) {
				t.Fatalf("row %d: %v %v is no argument", i, row.lo, row.hi)
			}
			if ok := checkRound(t, between(row.lo, row.hi), bits); ok != row.fits {
				t.Errorf("%d bits, row %d: %v, want %v", bits, i, ok, row.fits)
			}
			if ok := checkRound(t, between(turnedRat(row.hi), turnedRat(row.lo)), bits); ok != row.fits {
				t.Errorf("%d bits, row %d below 0: %v, want %v", bits, i, ok, row.fits)
			}
		}
	}
	for _, bits := range []int{0, 1, 64} {
		for _, a := range []impl.Rat{greatest, over(powerOf(39), most()), over(most(), powerOf(39))} {
			if !checkRound(t, between(turnedRat(a), a), bits) {
				t.Errorf("%v is refused at %d bits", a, bits)
			}
		}
	}
}

// checkRoot goes by what the document asks of Lo and Hi, not by a root.
func checkRoot(t *testing.T, a impl.Rat, bits int) {
	t.Helper()
	s, ok := impl.RootSpan(a, bits)
	if !ok || !impl.GoodSpan(s) {
		t.Fatalf("RootSpan %v %d: %v %v", a, bits, s, ok)
	}
	x, step, lo := plainRat(a), plainStep(bits), plainRat(s.Lo)
	if lo.Sign() < 0 || plainDown(lo, step).Cmp(lo) != 0 {
		t.Fatalf("RootSpan %v %d: Lo %v is no such number", a, bits, s.Lo)
	}
	next := new(big.Rat).Add(lo, step)
	square := new(big.Rat).Mul(lo, lo)
	if square.Cmp(x) > 0 || new(big.Rat).Mul(next, next).Cmp(x) <= 0 {
		t.Fatalf("RootSpan %v %d: Lo %v is not the greatest", a, bits, s.Lo)
	}
	if square.Cmp(x) == 0 {
		next = lo
	}
	wantSpan(t, "RootSpan", s, ok, lo, next)
}

func TestRootSpan(t *testing.T) {
	all := []impl.Rat{}
	r := fixed(35)
	for _, a := range append(edgeRats(), smallRats(t, 12)...) {
		if !a.Num.Neg {
			all = append(all, a)
		}
	}
	for range 150 {
		for _, n := range []int{1, 2, 5, 20, impl.MaxLimbs} {
			a := someRat(r, n)
			all = append(all, over(positive(a.Num.Limbs...), a.Den))
		}
	}
	for _, a := range all {
		for _, bits := range someBits() {
			checkRoot(t, a, bits)
		}
	}
}

func TestRootSpanWrittenOut(t *testing.T) {
	rows := []struct {
		num, den, bits int
		text           string
	}{
		{0, 1, 0, "0 0"}, {0, 1, 64, "0 0"}, {1, 1, 0, "1 1"}, {1, 1, 64, "1 1"}, {2, 1, 0, "1 2"}, {2, 1, 1, "1 3/2"}, {2, 1, 2, "5/4 3/2"}, {3, 1, 0, "1 2"}, {4, 1, 0, "2 2"}, {4, 1, 7, "2 2"}, {5, 1, 0, "2 3"},
		{1, 2, 0, "0 1"}, {1, 4, 0, "0 1"}, {1, 4, 1, "1/2 1/2"}, {9, 4, 0, "1 2"}, {9, 4, 1, "3/2 3/2"}, {9, 4, 2, "3/2 3/2"}, {25, 16, 1, "1 3/2"}, {25, 16, 2, "5/4 5/4"},
		// A square of another kind of fraction is no square of such numbers.
		{1, 9, 2, "1/4 1/2"}, {4, 9, 0, "0 1"}, {4, 9, 64, "6148914691236517205/9223372036854775808 12297829382473034411/18446744073709551616"},
		{1, 1 << 62, 31, "1/2147483648 1/2147483648"}, {1, 1 << 62, 30, "0 1/1073741824"},
		{2, 1, 64, "13043817825332782212/9223372036854775808 26087635650665564425/18446744073709551616"},
	}
	for i, row := range rows {
		// Written out in steps, so not always in lowest terms.
		want := []string{}
		for _, end := range strings.Fields(row.text) {
			x, _ := new(big.Rat).SetString(end)
			want = append(want, x.RatString())
		}
		s, ok := impl.RootSpan(ratOf(t, row.num, row.den), row.bits)
		if !ok || spanText(t, s) != want[0]+" "+want[1] {
			t.Errorf("row %d: %v %v, want %v", i, s, ok, want)
		}
	}
}

// Of the square of so many steps both ends are the root; a little less or more, and they are not.
func TestRootSpanOfSquares(t *testing.T) {
	r := fixed(36)
	for bits := range 65 {
		roots := []impl.Big{positive(1), positive(top), powerOf(1), powerOf(10), positive(limbs(20, top)...), positive(someBig(r, 3).Limbs...), positive(someBig(r, 15).Limbs...)}
		for _, root := range roots {
			x := new(big.Rat).Mul(new(big.Rat).SetInt(plain(root)), plainStep(bits))
			square := new(big.Rat).Mul(x, x)
			s, ok := impl.RootSpan(fromPlainRat(square), bits)
			wantSpan(t, "RootSpan of a square", s, ok, x, x)
			little := big.NewRat(1, 1<<40)
			little.Mul(little, plainStep(2*bits))
			for _, near := range []*big.Rat{new(big.Rat).Sub(square, little), new(big.Rat).Add(square, little)} {
				if !fitsPlain(near) {
					continue
				}
				checkRoot(t, fromPlainRat(near), bits)
				if s, ok := impl.RootSpan(fromPlainRat(near), bits); !ok || sameRat(s.Lo, s.Hi) {
					t.Fatalf("RootSpan next to a square, %v %d: %v %v", near, bits, s, ok)
				}
			}
			if bits < 64 {
				twice, is := impl.RootSpan(fromPlainRat(square), bits+1)
				wantSpan(t, "RootSpan with a bit more", twice, is, x, x)
			}
		}
	}
}

func TestBitsBeyond(t *testing.T) {
	s, a := between(ratOf(t, -1, 3), ratOf(t, 2, 3)), ratOf(t, 9, 4)
	for _, bits := range []int{-1, 65, -64, 66, 128, 1 << 32, -1 << 63, 1<<63 - 1} {
		wantZero(t, impl.RoundOut, s, bits)
		wantZero(t, impl.RoundOut, between(a, a), bits)
		wantZero(t, impl.RootSpan, a, bits)
		wantZero(t, impl.RootSpan, ratOf(t, 0, 1), bits)
	}
	for _, bits := range []int{0, 64} {
		if x := watch(t, impl.RoundOut, s, bits); x.zero() {
			t.Error("RoundOut refuses bits", bits)
		}
		if x := watch(t, impl.RootSpan, a, bits); x.zero() {
			t.Error("RootSpan refuses bits", bits)
		}
	}
}

func TestRootsBelowNought(t *testing.T) {
	for _, a := range slices.Concat(edgeRats(), smallRats(t, 4)) {
		for _, bits := range []int{0, 1, 64} {
			if a.Num.Neg {
				wantZero(t, impl.RootSpan, a, bits)
			}
		}
	}
}
