package tests

import (
	"math/big"
	"slices"
	"testing"

	"loop.example/g00409/impl"
)

func TestShareLimitsOfWhatIsGiven(t *testing.T) {
	for _, a := range append(edgeRingRats(), edgeDraws()...) {
		checkGivenForShares(t, a, true)
	}
	for _, a := range longRingRats() {
		checkGivenForShares(t, a, false)
	}
}

// checkGivenForShares: whether a fraction may be given, in X and in Y of a point. All points alike are within a square or without, and no cut makes a new one.
func checkGivenForShares(t *testing.T, a impl.Rat, good bool) {
	t.Helper()
	for n := 1; n <= 3; n++ {
		for _, p := range []impl.RPt{rpt(a, ratFrom("-3")), rpt(ratFrom("1/2"), a), rpt(a, a)} {
			l := slices.Repeat([]impl.RPt{p}, n)
			wantTaken(t, good, impl.ShareOf, l, 0, 0)
			wantTaken(t, good, impl.SharesIn, l, windowOf(-1, 0, 2, 1))
			wantTaken(t, good, impl.BytesIn, l, windowOf(0, -1, 1, 2))
		}
	}
}

func TestMostPointsOfSharesGiven(t *testing.T) {
	for _, p := range []string{"0,0", "1/2,-3", "1/3,2/3"} {
		for n := impl.MaxRing - 1; n <= impl.MaxRing+2; n++ {
			l, good := slices.Repeat([]impl.RPt{rptFrom(p)}, n), n <= impl.MaxRing
			wantTaken(t, good, impl.ShareOf, l, 0, 0)
			wantTaken(t, good, impl.SharesIn, l, windowOf(-1, -4, 2, 2))
			wantTaken(t, good, impl.BytesIn, l, windowOf(5, 5, 1, 1))
		}
	}
}

// On the way to a square a point may be too long: no share of that square is told, nor all shares of a window with it.
func TestSharesWithLongPointsOnTheWay(t *testing.T) {
	near, half := powerOfTwo(127, -1), powerOfTwo(127, 0)
	for _, row := range []struct {
		why, ring string
		x, y      int
		told      bool
	}{
		{"just good", "0,0 2,1/" + near + " 2,5 0,5", 0, 0, true},
		{"too long at its right edge", "0,0 2,1/" + half + " 2,5 0,5", 0, 0, false},
		{"too long at its left edge", "0,0 2,1/" + half + " 2,5 0,5", 1, 0, false},
		{"too long at its left edge, and cut off", "0,0 2,1/" + half + " 2,5 0,5", 1, 3, false},
		{"not cut there", "0,0 2,1/" + half + " 2,5 0,5", 2, 0, true},
		{"too long, but cut off ahead", "0,0 2,1/" + half + " 2,5 0,5", 5, 0, true},
		{"below 0", "0,0 -2,-1/" + half + " -2,-5 0,-5", -1, -1, false},
		{"just good below 0", "0,0 -2,-1/" + near + " -2,-5 0,-5", -1, -1, true},
		{"too long at its upper edge", "0,0 1/" + half + ",2 5,2 5,0", 0, 0, false},
		{"too long at its lower edge", "0,0 1/" + half + ",2 5,2 5,0", 0, 1, false},
		{"just good at its upper edge", "0,0 1/" + near + ",2 5,2 5,0", 0, 0, true},
	} {
		l := curveFrom(row.ring)
		for _, ring := range [][]impl.RPt{l, backwardsCurve(l)} {
			if told := checkShare(t, ring, row.x, row.y); told != row.told {
				t.Errorf("%s: ShareOf %v at %d %d: %v", row.why, ring, row.x, row.y, told)
			}
			for _, w := range []impl.Window{windowOf(row.x, row.y, 1, 1), windowOf(row.x, row.y, 2, 1), windowOf(row.x-1, row.y, 2, 1), windowOf(row.x, row.y-2, 1, 3)} {
				if told := checkShares(t, ring, w); !row.told && told {
					t.Errorf("%s: SharesIn %v %v: told", row.why, ring, w)
				}
				if told := checkBytes(t, ring, w); !row.told && told {
					t.Errorf("%s: BytesIn %v %v: told", row.why, ring, w)
				}
			}
		}
	}
}

// One square that is not told makes all the window be not told, wherever it stands there.
func TestOneShareThatIsNotTold(t *testing.T) {
	half := powerOfTwo(127, 0)
	// Cut by X at 1 alone, between two long points.
	l := curveFrom("1/2,1/4 3/2,3/4 3/2,1/" + half + " 1/2,0")
	told := map[bool]int{}
	for x := -2; x <= 3; x++ {
		told[checkShare(t, l, x, 0)]++
	}
	if told[false] != 2 {
		t.Fatal("not just two squares are not told:", told)
	}
	for x := -3; x <= 3; x++ {
		for wide := 1; wide <= 5; wide++ {
			has := x <= 1 && x+wide > 0
			for y := -2; y <= 1; y++ {
				w := windowOf(x, y, wide, 3)
				if is := checkShares(t, l, w); is == has {
					t.Fatalf("SharesIn %v: %v", w, is)
				}
				if is := checkBytes(t, l, w); is == has {
					t.Fatalf("BytesIn %v: %v", w, is)
				}
			}
		}
	}
}

// pressed is a ring with all Y divided, such that it lies in fewer squares.
func pressed(l []impl.RPt, parts int64) []impl.RPt {
	all := plainPts(l)
	for i := range all {
		all[i].y = new(big.Rat).Mul(all[i].y, big.NewRat(1, parts))
	}
	return fromPlainPts(all)
}

// Of the square there may be just as many points as a ring may have, and not one more; on the way there may be more.
func TestSharesWithManyPoints(t *testing.T) {
	many := map[int]bool{}
	for n := 3; n <= impl.MaxRing; n++ {
		for _, parts := range []int64{1, 3, 14, 20, 40} {
			for _, l := range [][]impl.RPt{zigzag(n), spikes(n, n/8), flatSpike(n, n-2)} {
				l = pressed(l, parts)
				for _, p := range wayOf(0, 0, -1, 0, 1, 1) {
					lo, hi := cornerRPts(windowOf(p.X, p.Y, 1, 1))
					part, _ := plainClipBox(l, lo, hi)
					many[len(part)] = true
					if told := checkShare(t, l, p.X, p.Y); told != (len(part) <= impl.MaxRing) {
						t.Fatalf("ShareOf with %d points: %v", len(part), told)
					}
				}
			}
		}
		checkShares(t, pressed(zigzag(n), 9), windowOf(-1, -1, 3, 3))
		checkBytes(t, pressed(zigzag(n), 9), windowOf(-1, -1, 2, 4))
	}
	if !many[impl.MaxRing] || !many[impl.MaxRing+1] {
		t.Error("not just as many as may be, and one more:", many)
	}
}

// With many points in one square no share of it is told, with one less all are.
func TestSharesWithOnePointTooMany(t *testing.T) {
	for _, row := range []struct {
		n    int
		told bool
	}{{36, true}, {37, false}} {
		l := pressed(spikes(row.n, 4), 40)
		wantTaken(t, row.told, impl.ShareOf, l, 0, 0)
		wantTaken(t, row.told, impl.SharesIn, l, windowOf(-1, -1, 3, 2))
		wantTaken(t, row.told, impl.BytesIn, l, windowOf(0, 0, 1, 1))
		wantTaken(t, true, impl.SharesIn, l, windowOf(1, 0, 3, 2))
	}
}

// A share may have just MaxLimbs limbs, and not one more; where it lies in one square, all others have none of it.
func TestShareLimitMetAndGoneBeyond(t *testing.T) {
	told := map[bool]int{}
	for _, row := range areaRings() {
		// The rings with great whole parts are far longer than a square.
		if row.num > row.den {
			continue
		}
		fits := row.den <= impl.MaxLimbs
		told[fits]++
		for _, l := range [][]impl.RPt{row.ring, backwardsCurve(row.ring), changedXY(row.ring)} {
			if is := checkShare(t, l, 0, 0); is != fits {
				t.Errorf("%s: ShareOf: %v", row.why, is)
			}
			if is := checkShares(t, l, windowOf(0, 0, 2, 1)); is != fits {
				t.Errorf("%s: SharesIn: %v", row.why, is)
			}
			checkShares(t, l, windowOf(-1, -1, 2, 2))
			wantTaken(t, true, impl.SharesIn, l, windowOf(2, 1, 2, 3))
			checkBytes(t, l, windowOf(0, 0, 1, 2))
		}
	}
	if told[true] < 2 || told[false] < 1 {
		t.Error("told and not:", told)
	}
}

// longShareRing lies in the square at 0, 0, and has a Den of just MaxLimbs limbs there that is odd: with a half its Den is one limb too long.
func longShareRing() []impl.RPt {
	p := ringPrimes(5, 16*ringLimbs)
	two, one := positive(2), positive(1)
	return slices.Concat(corner(over(two, p[0]), over(one, p[1])), corner(over(two, p[2]), over(one, p[3])), corner(over(two, p[4]), whole(one)))
}

// A share may be told, and its byte not: then no bytes are told.
func TestBytesOfSharesThatAreTooLong(t *testing.T) {
	l := longShareRing()
	share, ok := impl.ShareOf(l, 0, 0)
	if !ok || len(share.Den.Limbs) != impl.MaxLimbs || isByteTold(plainRat(share)) {
		t.Fatalf("ShareOf: %v %v, want one as long as may be", share, ok)
	}
	wantZero(t, impl.ByteOf, share)
	for _, w := range []impl.Window{windowOf(0, 0, 1, 1), windowOf(-2, -1, 3, 2), windowOf(0, 0, impl.MaxWindow, impl.MaxWindow)} {
		wantTaken(t, true, impl.SharesIn, l, w)
		wantZero(t, impl.BytesIn, l, w)
	}
	wantTaken(t, true, impl.BytesIn, l, windowOf(1, 0, 3, 3))
}

// byteLimits have 255 times it, and that and a half, at MaxLimbs and one limb beyond.
func byteLimits() []struct {
	why  string
	a    *big.Rat
	told bool
} {
	power := func(n uint, and int64) *big.Int {
		p := new(big.Int).Lsh(big.NewInt(1), n)
		return p.Add(p, big.NewInt(and))
	}
	const bits = 16 * impl.MaxLimbs
	rat := func(num, den *big.Int) *big.Rat { return new(big.Rat).SetFrac(num, den) }
	// Over 2 to the bits less 1 a Num of 255 times it and of a half together has just the bits, and no more, up to here.
	last := new(big.Int).Quo(new(big.Int).Sub(power(bits, -1), power(bits-2, 0)), big.NewInt(255))
	last.Or(last, big.NewInt(1)).Sub(last, big.NewInt(2))
	beyond := new(big.Int).Add(last, big.NewInt(4))
	// 255 times this one has one bit too many; over twice an odd number the half makes it shorter again.
	times := new(big.Int).Quo(power(bits, 0), big.NewInt(255))
	times.Add(times, big.NewInt(2)).Or(times, big.NewInt(1))
	return []struct {
		why  string
		a    *big.Rat
		told bool
	}{
		{"the longest whole number: it is 1", rat(power(bits, -1), big.NewInt(1)), true},
		{"the least one above 0, whose Den 255 divides", rat(big.NewInt(1), power(bits, -1)), true},
		{"the greatest one below 1, where the half is too long", rat(power(bits, -2), power(bits, -1)), false},
		{"the least one above 1, as long as may be", rat(power(bits, -1), power(bits, -2)), true},
		{"an odd Den, twice it just fits", rat(big.NewInt(1), power(bits-1, -1)), true},
		{"an odd Den, twice it is too long", rat(big.NewInt(1), power(bits-1, 3)), false},
		{"an even Den, which stays as it is", rat(big.NewInt(1), power(bits-1, 0)), true},
		{"Num and the half just fit", rat(last, power(bits-1, 0)), true},
		{"Num and the half are too long", rat(beyond, power(bits-1, 0)), false},
		{"255 times it is too long, but not with the half", rat(times, power(bits-1, 14)), false},
	}
}

func TestByteLimitMetAndGoneBeyond(t *testing.T) {
	for _, row := range byteLimits() {
		a := fromPlainRat(row.a)
		if !impl.GoodRat(a) {
			t.Fatalf("%s: %v is not good", row.why, a)
		}
		for _, share := range []impl.Rat{a, turnedRat(a)} {
			if told := checkByte(t, share); told != row.told {
				t.Errorf("%s: ByteOf %v: %v", row.why, share, told)
			}
			wantTaken(t, row.told, impl.ByteOf, share)
		}
	}
	// The last row is what it says: 255 times it is too long, and with a half it is not.
	rows := byteLimits()
	times := times255(rows[len(rows)-1].a)
	if fitsMost(times) || !fitsMost(times.Add(times, big.NewRat(1, 2))) {
		t.Error("the half does not make it shorter:", times)
	}
}

type sumLimit struct {
	why  string
	all  []impl.Rat
	told bool
}

// sumLimits have sums at MaxLimbs and one limb beyond, in the end and on the way.
func sumLimits() []sumLimit {
	one, less := whole(positive(1)), whole(negative(1))
	long, short := whole(most()), whole(positive(append([]int{top - 1}, limbs(impl.MaxLimbs-1, top)...)...))
	p := ringPrimes(2, 16*impl.MaxLimbs/2)
	a, b := over(positive(1), p[0]), over(positive(1), p[1])
	// The greater one of these has a limb more than a half of the longest ones: with b its Den is too long.
	c := over(positive(1), ringPrimes(1, 16*impl.MaxLimbs/2+1)[0])
	longs := over(positive(1), most())
	return []sumLimit{
		{"Num just fits", []impl.Rat{short, one}, true},
		{"Num a limb too long", []impl.Rat{long, one}, false},
		{"Num just fits below 0", []impl.Rat{turnedRat(short), less}, true},
		{"Num a limb too long below 0", []impl.Rat{turnedRat(long), less}, false},
		{"one as long as may be", []impl.Rat{long}, true},
		{"the longest one and 0", []impl.Rat{long, whole(impl.Big{}), whole(impl.Big{})}, true},
		{"too long on the way", []impl.Rat{long, one, less}, false},
		{"in another order not", []impl.Rat{long, less, one}, true},
		{"nor so", []impl.Rat{one, less, long}, true},
		{"too long on the way from the second one on", []impl.Rat{one, long, less}, false},
		{"too long on the way, nothing left in the end", []impl.Rat{long, long, turnedRat(long), turnedRat(long)}, false},
		{"nothing left by turns", []impl.Rat{long, turnedRat(long), long, turnedRat(long)}, true},
		{"Den just fits", []impl.Rat{a, b}, true},
		{"Den a limb too long", []impl.Rat{b, c}, false},
		{"Den a limb too long on the way", []impl.Rat{b, c, turnedRat(c)}, false},
		{"Den shorter again in the end", []impl.Rat{a, b, turnedRat(a)}, true},
		{"one Den of all, as long as may be", slices.Repeat([]impl.Rat{longs}, mostSummed), true},
		{"Num too long over a whole number", []impl.Rat{longs, whole(positive(1))}, false},
		{"Den and a whole number just fit", []impl.Rat{longs, less}, true},
		{"too long at the last one", append(slices.Repeat([]impl.Rat{whole(impl.Big{})}, mostSummed-2), long, one), false},
		{"just fits at the last one", append(slices.Repeat([]impl.Rat{whole(impl.Big{})}, mostSummed-2), short, one), true},
	}
}

func TestSumOfLimitMetAndGoneBeyond(t *testing.T) {
	for _, row := range sumLimits() {
		if told := checkSumOf(t, row.all); told != row.told {
			t.Errorf("%s: SumOf %v: %v", row.why, row.all, told)
		}
		wantTaken(t, row.told, impl.SumOf, row.all)
	}
}

// No sum of a part is too long only because there are many: the limit of how many is one for itself.
func TestMostSummed(t *testing.T) {
	for _, a := range []impl.Rat{ratFrom("0"), ratFrom("-1/3"), over(positive(1), most()), whole(powerOf(39))} {
		for n := mostSummed - 1; n <= mostSummed+2; n++ {
			wantTaken(t, n <= mostSummed, impl.SumOf, slices.Repeat([]impl.Rat{a}, n))
		}
	}
}
