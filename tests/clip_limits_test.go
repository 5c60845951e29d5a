package tests

import (
	"math/big"
	"slices"
	"testing"

	"loop.example/g00409/impl"
)

// powerOfTwo writes 2 to the n, and more or less by a little.
func powerOfTwo(n uint, and int64) string {
	p := new(big.Int).Lsh(big.NewInt(1), n)
	return p.Add(p, big.NewInt(and)).String()
}

func TestRingLimitsOfWhatIsGiven(t *testing.T) {
	for _, a := range append(edgeRingRats(), edgeDraws()...) {
		checkGivenInRing(t, a, true)
	}
	for _, a := range longRingRats() {
		checkGivenInRing(t, a, false)
	}
}

// checkGivenInRing: whether a fraction may be given, at each place of a ring. All cuts leave its points as they are, or none of them.
func checkGivenInRing(t *testing.T, a impl.Rat, good bool) {
	t.Helper()
	for n := 1; n <= 3; n++ {
		for at := range n {
			for _, p := range []impl.RPt{rpt(a, ratFrom("-3")), rpt(ratFrom("1/2"), a), rpt(a, a)} {
				l := slices.Repeat([]impl.RPt{p}, n)
				for i := range l {
					if i != at {
						l[i] = rptFrom("1/2,-3")
					}
				}
				wantTaken(t, good, impl.GoodRing, l)
				wantTaken(t, good, impl.FlipRing, l)
				wantTaken(t, good, impl.RingArea, l)
				alike := slices.Repeat([]impl.RPt{p}, n)
				for _, f := range callsOfRingAndCut() {
					wantTaken(t, good, f, alike, false, ratFrom("1/3"))
					wantTaken(t, good, f, alike, true, ratFrom("1/3"))
				}
				wantTaken(t, good, impl.ClipBox, alike, rptFrom("-1,-1"), rptFrom("1,1"))
			}
		}
	}
}

func TestCutLimitsOfWhatIsGiven(t *testing.T) {
	square := curveFrom("0,0 4,0 4,4 0,4")
	for _, at := range edgeDraws() {
		if many := checkSides(t, square, at); many != 4 {
			t.Errorf("at %v: told %d", at, many)
		}
		wantTaken(t, true, impl.ClipBox, square, rpt(at, at), rpt(at, at))
	}
	zero := ratFrom("0")
	for _, at := range longDraws() {
		for _, l := range [][]impl.RPt{square, nil, curveFrom("1/2,1/2")} {
			for _, f := range callsOfRingAndCut() {
				wantTaken(t, false, f, l, false, at)
				wantTaken(t, false, f, l, true, at)
			}
			for _, p := range []impl.RPt{rpt(at, zero), rpt(zero, at)} {
				wantTaken(t, false, impl.ClipBox, l, p, p)
				wantTaken(t, false, impl.ClipBox, l, p, rpt(whole(longDraw()), whole(longDraw())))
				wantTaken(t, false, impl.ClipBox, l, rpt(whole(turned(longDraw())), whole(turned(longDraw()))), p)
			}
		}
	}
}

func TestMostPointsGiven(t *testing.T) {
	for _, p := range []string{"0,0", "1/2,-3"} {
		for n := impl.MaxRing - 1; n <= impl.MaxRing+2; n++ {
			l, good := slices.Repeat([]impl.RPt{rptFrom(p)}, n), n <= impl.MaxRing
			for _, f := range callsOfRing() {
				wantTaken(t, good, f, l)
			}
			for _, f := range callsOfRingAndCut() {
				for _, at := range []string{"-9", "0", "9"} {
					wantTaken(t, good, f, l, false, ratFrom(at))
					wantTaken(t, good, f, l, true, ratFrom(at))
				}
			}
			wantTaken(t, good, impl.ClipBox, l, rptFrom("-9,-9"), rptFrom("9,9"))
			wantTaken(t, good, impl.ClipBox, l, rptFrom("7,7"), rptFrom("9,9"))
		}
	}
}

type clipLimit struct {
	why  string
	ring []impl.RPt
	told bool
}

// clipLimits are cut by X at 1, such that both sides have what is told in Y.
func clipLimits() []clipLimit {
	near, half, long := powerOfTwo(127, -1), powerOfTwo(127, 0), powerOfTwo(128, -1)
	return []clipLimit{
		{"Den just good", curveFrom("0,0 2,1/" + near), true},
		{"Den a limb too long", curveFrom("0,0 2,1/" + half), false},
		{"Den a limb too long, but for what is shortened", curveFrom("0,0 2,2/" + long), true},
		{"Den just good, below 0", curveFrom("0,0 2,-1/" + near), true},
		{"Den a limb too long, below 0", curveFrom("0,0 2,-1/" + half), false},
		{"Num just good", curveFrom("0," + near + " 2," + half), true},
		{"Num a limb too long", curveFrom("0," + half + " 2," + powerOfTwo(127, 1)), false},
		{"Num just good, below 0", curveFrom("0,-" + near + " 2,-" + half), true},
		{"Num a limb too long, below 0", curveFrom("0,-" + half + " 2,-" + powerOfTwo(127, 1)), false},
		{"at the limit along a line", curveFrom("0," + long + " 2," + long), true},
		{"at the limit from end to end", curveFrom("0," + long + " 2,-" + long), true},
		{"one of two just good", curveFrom("0,0 2,1/" + near + " 2,5 0,5"), true},
		{"one of two a limb too long", curveFrom("0,0 2,1/" + half + " 2,5 0,5"), false},
		{"the last one of two a limb too long", curveFrom("0,0 0,5 2,5 2,1/" + half), false},
		{"a long point at the cut", curveFrom("0,0 1,1/" + long + " 2,0"), true},
		{"X makes it too long", curveFrom("1/" + long + ",0 3,1/7"), false},
		{"all at the limit", longestRing(4), false},
	}
}

// mirrored has the points of the low side of a cut by X at 1 on its high side, and the other way round.
func mirrored(l []impl.RPt) []impl.RPt {
	all := cloneCurve(l)
	for i, p := range all {
		all[i] = rpt(fromPlainRat(new(big.Rat).Sub(big.NewRat(2, 1), plainRat(p.X))), p.Y)
	}
	return all
}

func TestClipLimbsMetAndGoneBeyond(t *testing.T) {
	one := ratFrom("1")
	for _, row := range clipLimits() {
		all := [][]impl.RPt{row.ring, backwardsCurve(row.ring)}
		// A point itself may be too long when it is mirrored.
		if l := mirrored(row.ring); isPlainRing(l) {
			all = append(all, l)
		}
		for _, l := range all {
			for _, s := range sidesOfCuts() {
				ring := l
				if s.byY {
					ring = changedXY(l)
				}
				if told := checkSide(t, s, ring, one); told != row.told {
					t.Errorf("%s: %s%v: %v", row.why, s.name(), l, told)
				}
			}
		}
	}
}

// Points that no cut goes through, or that are on the other side, stay as long as they are, or are not told at all.
func TestClipOfLongestRings(t *testing.T) {
	for n := range 4 {
		l := longestRing(n)
		for _, at := range []impl.Rat{whole(longDraw()), whole(turned(longDraw()))} {
			if many := checkSides(t, l, at); many != 4 {
				t.Errorf("%d points at %v: told %d", n, at, many)
			}
		}
	}
}

func TestClipPointsMetAndGoneBeyond(t *testing.T) {
	for _, row := range []struct {
		why       string
		ring      []impl.RPt
		low, high int
	}{
		{"all on the low side, as many as may be", spikes(impl.MaxRing, 0), 40, 0},
		{"one more is on the high side", spikes(impl.MaxRing, 1), 41, 3},
		{"just as many as may be", spikes(36, 4), 40, 12},
		{"one too many", spikes(37, 4), 41, 12},
		{"just as many, with more spikes", spikes(27, 13), 40, 39},
		{"two too many on the high side", spikes(28, 14), 42, 42},
		{"just as many on the high side", flatSpike(impl.MaxRing, 38), 4, 40},
		{"one too many on the high side", flatSpike(impl.MaxRing, 39), 3, 41},
		{"each segment cut, told", zigzag(26), 39, 39},
		{"each segment cut, too many", zigzag(28), 42, 42},
		{"each segment cut, far too many", zigzag(impl.MaxRing), 60, 60},
	} {
		at := ratFrom("1/2")
		for _, s := range sidesOfCuts() {
			l, want := row.ring, row.low
			if s.byY {
				l = changedXY(l)
			}
			if s.high {
				want = row.high
			}
			if many := len(s.plainClip(l, at)); many != want {
				t.Fatalf("%s: %s has %d points, want %d", row.why, s.name(), many, want)
			}
			if told := checkSide(t, s, l, at); told != (want <= impl.MaxRing) {
				t.Errorf("%s: %s%v: %v", row.why, s.name(), l, told)
			}
		}
	}
}

// On the way from side to side there may be more than MaxRing points, in the end not.
func TestClipBoxWithMoreOnTheWay(t *testing.T) {
	l := zigzag(impl.MaxRing)
	for _, s := range []look{{false, true}, {false, false}} {
		if part, ok := s.clip(l, ratFrom("0")); ok || len(part) > 0 {
			t.Fatalf("%sat 0: %d points are told", s.name(), len(part))
		}
	}
	last := map[int]bool{}
	for quarters := range 4*impl.MaxRing + 1 {
		y := fromPlainRat(big.NewRat(int64(quarters), 4))
		for _, box := range [][2]impl.RPt{
			{rptFrom("0,0"), rpt(ratFrom("1"), y)}, {rptFrom("-1,0"), rpt(ratFrom("0"), y)}, {rptFrom("-1/2,0"), rpt(ratFrom("1/2"), y)},
			{rpt(ratFrom("0"), y), rptFrom("1,99")}, {rpt(ratFrom("-1/2"), y), rptFrom("1/2,99")},
		} {
			want, _ := plainClipBox(l, box[0], box[1])
			last[len(want)] = true
			if told := checkBox(t, l, box[0], box[1]); told != (len(want) <= impl.MaxRing) {
				t.Fatalf("ClipBox from %v to %v: %v, with %d points", box[0], box[1], told, len(want))
			}
		}
	}
	if !last[impl.MaxRing] || !last[impl.MaxRing+1] || !last[4] {
		t.Error("not just as many as may be, and one more:", last)
	}
}

// Each side holds limbs against the limit, also where what is too long would be cut off at the next one.
func TestClipBoxWithLongPointsOnTheWay(t *testing.T) {
	near, half := powerOfTwo(127, -1), powerOfTwo(127, 0)
	for _, row := range []struct {
		why, ring, lo, hi string
		told              bool
	}{
		{"just good at the first side, and cut off", "0,0 2,1/" + near + " 2,5 0,5", "1,1", "9,9", true},
		{"too long at the first side, and cut off", "0,0 2,1/" + half + " 2,5 0,5", "1,1", "9,9", false},
		{"just good at the second side, and cut off", "0,1/" + near + " 2,0 2,5 0,5", "-9,1", "1,9", true},
		{"too long at the second side, and cut off", "0,1/" + half + " 2,0 2,5 0,5", "-9,1", "1,9", false},
		{"just good at the third side", "0,1 1/" + near + ",-1 5,-1 5,1", "-9,0", "9,0", true},
		{"too long at the third side", "1/4,1 1/" + half + ",-1 5,-1 5,1", "-9,0", "9,0", false},
		{"too long at the last side", "0,0 1/" + half + ",2 5,2 5,0", "-9,-9", "9,1", false},
		{"just good at the last side", "0,0 1/" + near + ",2 5,2 5,0", "-9,-9", "9,1", true},
		{"too long only where the first side has cut off all", "-2,0 -1,1/" + half + " -1,5 -2,5", "1,1", "9,9", true},
	} {
		if told := checkBox(t, curveFrom(row.ring), rptFrom(row.lo), rptFrom(row.hi)); told != row.told {
			t.Errorf("%s: ClipBox %s from %s to %s: %v", row.why, row.ring, row.lo, row.hi, told)
		}
	}
}

// corner goes from 0, 0 along both axes and back: half of the product is its area.
func corner(x, y impl.Rat) []impl.RPt {
	zero := ratFrom("0")
	return []impl.RPt{rpt(zero, zero), rpt(x, zero), rpt(zero, y)}
}

// areaRings have areas that meet MaxLimbs, or go beyond it.
func areaRings() []struct {
	why      string
	ring     []impl.RPt
	num, den int
} {
	p := ringPrimes(5, 16*ringLimbs)
	less := ringPrimes(1, 16*ringLimbs-1)[0]
	one := positive(1)
	part := func(a, b impl.Big) []impl.RPt { return corner(over(one, a), over(one, b)) }
	great := corner(whole(longRingBig()), whole(longRingBig()))
	return []struct {
		why      string
		ring     []impl.RPt
		num, den int
	}{
		{"Den just fits", slices.Concat(part(p[0], p[1]), part(p[2], p[3]), part(less, one)), 32, 40},
		{"Den a limb too long", slices.Concat(part(p[0], p[1]), part(p[2], p[3]), part(p[4], one)), 32, 41},
		{"Num just fits", slices.Concat(great, part(p[0], p[1]), part(p[2], one)), 40, 25},
		{"Num a limb too long", slices.Concat(great, great, great, part(p[0], p[1]), part(p[2], one)), 41, 25},
		{"one Den of all, which is far shorter", slices.Repeat(part(p[0], p[1]), 13), 1, 17},
		{"both far too long", slices.Concat(great, part(p[0], p[1]), part(p[2], p[3]), part(p[4], less)), 64, 48},
	}
}

func TestRingAreaLimitMetAndGoneBeyond(t *testing.T) {
	for _, row := range areaRings() {
		want := fromPlainRat(plainRingArea(row.ring))
		if len(want.Num.Limbs) != row.num || len(want.Den.Limbs) != row.den {
			t.Fatalf("%s: the area has %d and %d limbs, want %d and %d", row.why, len(want.Num.Limbs), len(want.Den.Limbs), row.num, row.den)
		}
		fits := max(row.num, row.den) <= impl.MaxLimbs
		for _, l := range [][]impl.RPt{row.ring, backwardsCurve(row.ring), changedXY(row.ring)} {
			checkArea(t, l)
			wantTaken(t, fits, impl.RingArea, l)
		}
	}
}

// Sums on the way are far beyond MaxLimbs; what is left in the end is told.
func TestRingAreaPartsLongerThanWhatIsTold(t *testing.T) {
	for n := 1; n <= impl.MaxRing/2; n += 3 {
		there := longestRing(n)
		l := append(cloneCurve(there), backwardsCurve(there)...)
		area, ok := impl.RingArea(l)
		wantRat(t, "RingArea there and back", area, ok, new(big.Rat))
	}
	checkArea(t, longestRing(impl.MaxRing))
}
