package tests

import (
	"math"
	"math/big"
	"testing"

	"loop.example/g00409/impl"
)

func TestGoodRat(t *testing.T) {
	for _, a := range edgeRats() {
		if !impl.GoodRat(a) {
			t.Errorf("%v is good", a)
		}
	}
	for _, a := range wrongRats() {
		if impl.GoodRat(a) {
			t.Errorf("%v is not good", a)
		}
	}
}

func TestRatOf(t *testing.T) {
	const far = 1 << 62
	ints := []int{
		0, 1, -1, 2, -2, 3, 4, 6, -6, 12, 65535, 65536, -65536, 1 << 40, 3 << 40,
		far - 1, far, -far, -far + 1, far + 1, -far - 1, math.MaxInt, math.MinInt,
	}
	for _, num := range ints {
		for _, den := range ints {
			a, ok := impl.RatOf(num, den)
			if den == 0 || min(num, den) < -far || max(num, den) > far {
				if ok || !sameRat(a, impl.Rat{}) {
					t.Errorf("RatOf %d %d: %v %v, want the zero answer", num, den, a, ok)
				}
				continue
			}
			wantRat(t, "RatOf", a, ok, big.NewRat(int64(num), int64(den)))
		}
	}
}

func TestTheSignIsTheNumerators(t *testing.T) {
	rows := []struct {
		num, den int
		text     string
	}{
		{6, -4, "-3/2"}, {-6, 4, "-3/2"}, {-6, -4, "3/2"}, {6, 4, "3/2"}, {0, -4, "0"}, {-4, -2, "2"}, {4, -2, "-2"},
	}
	for _, row := range rows {
		a := ratOf(t, row.num, row.den)
		if s := ratText(t, a); s != row.text || a.Den.Neg {
			t.Errorf("%d by %d: %q, Den %v", row.num, row.den, s, a.Den)
		}
	}
	a, ok := impl.DivRat(ratOf(t, 3, 2), ratOf(t, -9, 4))
	if !ok || ratText(t, a) != "-2/3" {
		t.Error("a quotient below 0:", a, ok)
	}
	if a, ok = impl.DivRat(ratOf(t, -3, 2), ratOf(t, -9, 4)); !ok || ratText(t, a) != "2/3" {
		t.Error("a quotient of two below 0:", a, ok)
	}
}

func TestCompareRat(t *testing.T) {
	all := append(edgeRats(), smallRats(t, 6)...)
	for _, a := range all {
		for _, b := range all {
			if c, ok := impl.CompareRat(a, b); !ok || c != plainRat(a).Cmp(plainRat(b)) {
				t.Errorf("CompareRat %v %v: %d %v", a, b, c, ok)
			}
		}
	}
}

// ratDeed is one way to make a fraction of two, beside the library's own.
type ratDeed struct {
	name string
	own  func(a, b impl.Rat) (impl.Rat, bool)
	lib  func(z, a, b *big.Rat) *big.Rat
}

var (
	addDeed = ratDeed{"AddRat", impl.AddRat, (*big.Rat).Add}
	subDeed = ratDeed{"SubRat", impl.SubRat, (*big.Rat).Sub}
	mulDeed = ratDeed{"MulRat", impl.MulRat, (*big.Rat).Mul}
	divDeed = ratDeed{"DivRat", impl.DivRat, (*big.Rat).Quo}
)

func (d ratDeed) check(t *testing.T, a, b impl.Rat) bool {
	t.Helper()
	got, ok := d.own(a, b)
	wantRat(t, d.name, got, ok, d.lib(new(big.Rat), plainRat(a), plainRat(b)))
	return ok
}

func checkArithmetic(t *testing.T, a, b impl.Rat) {
	t.Helper()
	addDeed.check(t, a, b)
	subDeed.check(t, a, b)
	mulDeed.check(t, a, b)
	if len(b.Num.Limbs) > 0 {
		divDeed.check(t, a, b)
	}
}

func TestRatArithmetic(t *testing.T) {
	all := append(edgeRats(), smallRats(t, 6)...)
	for _, a := range all {
		for _, b := range all {
			checkArithmetic(t, a, b)
		}
	}
	r := fixed(11)
	for range 500 {
		checkArithmetic(t, someRat(r, 3), someRat(r, 3))
		checkArithmetic(t, someRat(r, 21), someRat(r, 21))
		checkArithmetic(t, someRat(r, impl.MaxLimbs), someRat(r, impl.MaxLimbs))
	}
}

func TestRatLimitMetAndGoneBeyond(t *testing.T) {
	one := whole(positive(1))
	nearly, _ := impl.SubBig(most(), positive(1))
	rows := []struct {
		deed ratDeed
		a, b impl.Rat
		fits bool
	}{
		{addDeed, whole(nearly), one, true},
		{addDeed, whole(most()), one, false},
		{subDeed, whole(turned(nearly)), one, true},
		{subDeed, whole(turned(most())), one, false},
		{addDeed, whole(positive(limbs(39, top)...)), over(positive(1), powerOf(1)), true},
		{addDeed, whole(most()), over(positive(1), positive(2)), false},
		{addDeed, over(positive(1), powerOf(19)), over(positive(1), positive(append(limbs(20, top), 0x7fff)...)), true},
		{addDeed, over(positive(1), powerOf(20)), over(positive(1), positive(limbs(21, top)...)), false},
		{mulDeed, whole(powerOf(19)), whole(powerOf(20)), true},
		{mulDeed, whole(powerOf(20)), whole(powerOf(20)), false},
		{mulDeed, over(positive(1), powerOf(19)), over(negative(1), powerOf(20)), true},
		{mulDeed, over(positive(1), powerOf(20)), over(negative(1), powerOf(20)), false},
		{divDeed, over(positive(1), powerOf(19)), whole(powerOf(20)), true},
		{divDeed, over(positive(1), powerOf(20)), whole(powerOf(20)), false},
		{divDeed, whole(powerOf(19)), over(negative(1), powerOf(20)), true},
		{divDeed, whole(powerOf(20)), over(negative(1), powerOf(20)), false},
	}
	for i, row := range rows {
		if ok := row.deed.check(t, row.a, row.b); ok != row.fits {
			t.Errorf("row %d: %v, want %v", i, ok, row.fits)
		}
	}
}

// On the way to these the parts have far more than MaxLimbs limbs: only what comes out has to fit.
func TestRatPartsLongerThanTheSum(t *testing.T) {
	third := over(positive(1), most())
	half := over(most(), powerOf(39))
	rows := []struct {
		do   func(a, b impl.Rat) (impl.Rat, bool)
		a, b impl.Rat
		text string
	}{
		{impl.SubRat, third, third, "0"},
		{impl.AddRat, third, turnedRat(third), "0"},
		{impl.SubRat, half, half, "0"},
		{impl.DivRat, half, half, "1"},
		{impl.DivRat, turnedRat(half), half, "-1"},
		{impl.MulRat, half, over(powerOf(39), most()), "1"},
		{impl.MulRat, whole(most()), over(positive(2), most()), "2"},
		{impl.AddRat, over(positive(1), powerOf(39)), over(positive(top), powerOf(39)), "1/" + plain(powerOf(38)).String()},
	}
	for i, row := range rows {
		if a, ok := row.do(row.a, row.b); !ok || ratText(t, a) != row.text {
			t.Errorf("row %d: %v %v, want %s", i, a, ok, row.text)
		}
	}
}

func TestFloorRat(t *testing.T) {
	rows := [][3]int{
		{0, 1, 0}, {7, 1, 7}, {-7, 1, -7}, {7, 2, 3}, {-7, 2, -4}, {1, 3, 0}, {-1, 3, -1}, {2, 3, 0}, {-2, 3, -1},
		{-6, 4, -2}, {6, -4, -2}, {6, 4, 1}, {-65536, 65535, -2}, {65536, 65535, 1}, {-65535, 65536, -1}, {65535, 65536, 0},
	}
	for _, row := range rows {
		a, ok := impl.FloorRat(ratOf(t, row[0], row[1]))
		if n, is := impl.IntOf(a); !ok || !is || n != row[2] {
			t.Errorf("FloorRat of %d by %d: %v %v", row[0], row[1], a, ok)
		}
	}
	r := fixed(12)
	all := append(edgeRats(), smallRats(t, 12)...)
	for range 1000 {
		all = append(all, someRat(r, impl.MaxLimbs))
	}
	for _, a := range all {
		got, ok := impl.FloorRat(a)
		// Den is above 0, so that what Euclid's division tells is the floor.
		wantBig(t, "FloorRat", got, ok, new(big.Int).Div(plain(a.Num), plain(a.Den)))
	}
}

func TestRatText(t *testing.T) {
	rows := []struct {
		num, den int
		text     string
	}{
		{0, 1, "0"}, {0, 9, "0"}, {1, 1, "1"}, {-1, 1, "-1"}, {10, 1, "10"}, {10, 5, "2"}, {1, 2, "1/2"}, {-1, 2, "-1/2"}, {100, 30, "10/3"},
		{1, 10, "1/10"}, {-(1 << 62), 1<<62 - 1, "-4611686018427387904/4611686018427387903"},
	}
	for _, row := range rows {
		if s, ok := impl.RatText(ratOf(t, row.num, row.den)); !ok || s != row.text {
			t.Errorf("%d by %d: %q %v", row.num, row.den, s, ok)
		}
	}
	for _, a := range edgeRats() {
		if s, ok := impl.RatText(a); !ok || s != plainRat(a).RatString() {
			t.Errorf("%v: %q %v", a, s, ok)
		}
	}
}
