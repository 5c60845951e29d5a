package tests

import (
	"math/big"
	"slices"
	"testing"

	"loop.example/g00409/impl"
)

func TestRingAreaWrittenOut(t *testing.T) {
	for _, c := range []struct{ why, ring, want string }{
		{"no point", "", "0"},
		{"one point", "3/2,-7", "0"},
		{"two points", "1,2 -3,5/4", "0"},
		{"two points alike", "1,2 1,2", "0"},
		{"a square to the left", "0,0 4,0 4,4 0,4", "16"},
		{"a square to the right", "0,4 4,4 4,0 0,0", "-16"},
		{"a square begun elsewhere", "4,4 0,4 0,0 4,0", "16"},
		{"a square far from 0, 0", "1000,-1000 1004,-1000 1004,-996 1000,-996", "16"},
		{"a triangle", "0,0 1,0 0,1", "1/2"},
		{"a triangle of fractions", "1/2,1/3 -2/5,3/7 -1/4,-5/6", "157/280"},
		{"a triangle of fractions to the right", "1/2,1/3 -1/4,-5/6 -2/5,3/7", "-157/280"},
		{"crosses itself, both parts alike", "0,0 2,2 2,0 0,2", "0"},
		{"crosses itself, one part greater", "0,0 3,3 3,0 0,2", "-3/2"},
		{"a star", "0,3 6,3 1,0 3,5 5,0", "-13"},
		{"twice round", "0,0 4,0 4,4 0,4 0,0 4,0 4,4 0,4", "32"},
		{"once to the left, once to the right", "0,0 4,0 4,4 0,4 0,0 0,4 4,4 4,0", "0"},
		{"points on one line", "-1,-1 1,1 3,3", "0"},
		{"points on one line, up and down", "1/2,0 1/2,5 1/2,-3 1/2,1/7", "0"},
		{"points alike", "2,-3 2,-3 2,-3 2,-3", "0"},
		{"there and back", "0,0 1,2 3,1/2 1,2", "0"},
		{"a point twice", "0,0 3,0 3,3 3,3 0,3", "9"},
	} {
		area, ok := impl.RingArea(curveFrom(c.ring))
		wantRat(t, c.why+": RingArea "+c.ring, area, ok, plainRat(ratFrom(c.want)))
	}
}

func TestRingAreaOfAll(t *testing.T) {
	r := fixed(163)
	all := ringsOfAll(r)
	for n := range impl.MaxRing + 1 {
		all = append(all, smallCurve(r, n, 99, 9), someCurve(r, n, 1))
	}
	for _, l := range all {
		checkArea(t, l)
		for n := range min(len(l), 4) {
			checkArea(t, append(cloneCurve(l[n:]), l[:n]...))
		}
	}
}

// A way's ring has the area of the way (chapter 8).
func TestRingAreaOfWays(t *testing.T) {
	for _, l := range append(simpleWays(), windingWays()...) {
		area, ok := impl.AreaTwice(l)
		ring, is := impl.RingOf(l)
		if !ok || !is {
			t.Fatalf("AreaTwice or RingOf %v: refused", l)
		}
		if got := areaPlainly(t, ring); got.Cmp(big.NewRat(int64(area), 2)) != 0 {
			t.Errorf("RingArea %v: %v, twice the way's area is %d", l, got, area)
		}
	}
}

type clipRow struct{ why, ring, at, low, high string }

func clipRows() []clipRow {
	return []clipRow{
		{"no point", "", "0", "", ""},
		{"one point on one side", "1/2,-3", "1", "1/2,-3", ""},
		{"one point on the other side", "1/2,-3", "1/3", "", "1/2,-3"},
		{"one point at the cut", "1/2,-3", "1/2", "1/2,-3", "1/2,-3"},
		{"two points, one on each side", "-1,2 3,-4", "0", "0,1/2 -1,2 0,1/2", "0,1/2 0,1/2 3,-4"},
		{"two points, one at the cut", "0,2 3,-4", "0", "0,2 0,2 0,2", "0,2 3,-4"},
		{"two points at the cut", "0,2 0,-4", "0", "0,2 0,-4", "0,2 0,-4"},
		{"a square between its sides", "0,0 4,0 4,4 0,4", "1", "0,0 1,0 1,4 0,4", "1,0 4,0 4,4 1,4"},
		{"a square to the right", "0,4 4,4 4,0 0,0", "1", "0,4 1,4 1,0 0,0", "1,4 4,4 4,0 1,0"},
		{"a square whose first and last points are on different sides", "4,0 4,4 0,4 0,0", "1", "1,0 1,4 0,4 0,0", "1,0 4,0 4,4 1,4"},
		{"a square whose first and last points are on different sides, begun on the low one", "0,4 0,0 4,0 4,4", "1", "1,4 0,4 0,0 1,0", "1,4 1,0 4,0 4,4"},
		{"a square all on the low side", "0,0 4,0 4,4 0,4", "9/2", "0,0 4,0 4,4 0,4", ""},
		{"a square all on the high side", "0,0 4,0 4,4 0,4", "-1/9", "", "0,0 4,0 4,4 0,4"},
		{"a square with two points at the cut, the others below", "0,0 4,0 4,4 0,4", "4", "0,0 4,0 4,4 0,4", "4,0 4,0 4,4 4,4"},
		{"a square with two points at the cut, the others above", "0,0 4,0 4,4 0,4", "0", "0,0 0,0 0,4 0,4", "0,0 4,0 4,4 0,4"},
		{"a triangle with its last point at the cut", "0,0 4,0 2,4", "2", "0,0 2,0 2,4 2,4", "2,4 2,0 4,0 2,4"},
		{"a triangle with its first point at the cut", "2,4 0,0 4,0", "2", "2,4 2,4 0,0 2,0", "2,4 2,4 2,0 4,0"},
		{"a triangle with two points at the cut, first and last", "2,0 0,1 2,4", "2", "2,0 0,1 2,4", "2,0 2,0 2,4 2,4"},
		{"a triangle of fractions", "-1/2,-1/2 1/2,-1/2 0,3/2", "1/4", "-1/2,-1/2 1/4,-1/2 1/4,1/2 0,3/2", "1/4,-1/2 1/2,-1/2 1/4,1/2"},
		{"a triangle at a cut below 0", "-1/2,-1/2 1/2,-1/2 0,3/2", "-1/4", "-1/4,1/2 -1/2,-1/2 -1/4,-1/2", "-1/4,1/2 -1/4,-1/2 1/2,-1/2 0,3/2"},
		{"one that crosses itself at the cut", "0,0 2,2 2,0 0,2", "1", "0,0 1,1 1,1 0,2", "1,1 2,2 2,0 1,1"},
		{"points on one line", "-1,-1 1,1 3,3", "2", "2,2 -1,-1 1,1 2,2", "2,2 2,2 3,3"},
		{"all points at the cut", "1/2,0 1/2,5 1/2,-3", "1/2", "1/2,0 1/2,5 1/2,-3", "1/2,0 1/2,5 1/2,-3"},
		{"points alike", "2,-3 2,-3", "2", "2,-3 2,-3", "2,-3 2,-3"},
		{"two parts on the high side", "0,0 3,1 0,2 3,3 0,4", "1", "0,0 1,1/3 1,5/3 0,2 1,7/3 1,11/3 0,4", "1,1/3 3,1 1,5/3 1,7/3 3,3 1,11/3"},
		{"through the cut along it", "0,0 1,0 1,2 3,2", "1", "1,2/3 0,0 1,0 1,2 1,2", "1,2/3 1,0 1,0 1,2 3,2"},
	}
}

func TestClipWrittenOut(t *testing.T) {
	for _, c := range clipRows() {
		at := ratFrom(c.at)
		for _, byY := range []bool{false, true} {
			ring, lowWant, highWant := curveFrom(c.ring), curveFrom(c.low), curveFrom(c.high)
			if byY {
				ring, lowWant, highWant = changedXY(ring), changedXY(lowWant), changedXY(highWant)
			}
			low, ok := impl.ClipLow(ring, byY, at)
			wantCurve(t, c.why+": ClipLow "+c.ring+" at "+c.at, low, ok, lowWant)
			high, ok := impl.ClipHigh(ring, byY, at)
			wantCurve(t, c.why+": ClipHigh "+c.ring+" at "+c.at, high, ok, highWant)
		}
	}
}

// By Y without changing X and Y of what is written out: each field is looked at for itself.
func TestClipByYWrittenOut(t *testing.T) {
	square := curveFrom("0,0 4,0 4,4 0,4")
	low, ok := impl.ClipLow(square, true, ratFrom("1"))
	wantCurve(t, "ClipLow by Y", low, ok, curveFrom("0,1 0,0 4,0 4,1"))
	high, ok := impl.ClipHigh(square, true, ratFrom("1"))
	wantCurve(t, "ClipHigh by Y", high, ok, curveFrom("0,1 4,1 4,4 0,4"))
	slope := curveFrom("0,0 4,0 2,4")
	low, ok = impl.ClipLow(slope, true, ratFrom("3/2"))
	wantCurve(t, "ClipLow by Y", low, ok, curveFrom("3/4,3/2 0,0 4,0 13/4,3/2"))
	high, ok = impl.ClipHigh(slope, true, ratFrom("3/2"))
	wantCurve(t, "ClipHigh by Y", high, ok, curveFrom("3/4,3/2 13/4,3/2 2,4"))
	high, ok = impl.ClipHigh(slope, true, ratFrom("4"))
	wantCurve(t, "ClipHigh by Y at the top", high, ok, curveFrom("2,4 2,4 2,4"))
}

func TestClipOfAll(t *testing.T) {
	r := fixed(164)
	told, asked := 0, 0
	for _, l := range ringsOfAll(r) {
		cuts := append(cutsAmong(l), edgeDraws()...)
		for _, at := range append(cuts, smallRat(r, 9, 5), someRat(r, drawLimbs)) {
			told += checkSides(t, l, at)
			asked += len(sidesOfCuts())
		}
	}
	if told < asked/2 || asked-told < 200 {
		t.Errorf("told %d of %d", told, asked)
	}
}

func TestClipOfSome(t *testing.T) {
	r := fixed(165)
	for range 300 {
		checkSides(t, smallCurve(r, r.IntN(impl.MaxRing+1), 6, 3), smallRat(r, 7, 3))
		checkSides(t, someCurve(r, r.IntN(9), 1+r.IntN(3)), someRat(r, 1))
	}
}

func isAmong(l []impl.RPt, p impl.RPt) bool {
	return slices.ContainsFunc(l, func(q impl.RPt) bool { return sameRPt(p, q) })
}

// isOnRing: whether a point is on one of the segments, by turning from its ends to it.
func isOnRing(l []impl.RPt, p plainPt) bool {
	all := plainPts(l)
	for i, a := range all {
		b := all[(i+1)%len(all)]
		one := plainPt{new(big.Rat).Sub(a.x, p.x), new(big.Rat).Sub(a.y, p.y)}
		other := plainPt{new(big.Rat).Sub(b.x, p.x), new(big.Rat).Sub(b.y, p.y)}
		apart := new(big.Rat).Add(new(big.Rat).Mul(one.x, other.x), new(big.Rat).Mul(one.y, other.y))
		if crossOfPts(one, other).Sign() == 0 && apart.Sign() <= 0 {
			return true
		}
	}
	return false
}

// What is told lies on the ring and on the side: it is a point of the ring, or has just the cut as its X (by Y: as its Y).
func TestClipPointsLieOnTheCutAndOnTheRing(t *testing.T) {
	r := fixed(166)
	met := 0
	for _, l := range ringsOfAll(r) {
		for _, at := range append(cutsAmong(l), smallRat(r, 5, 4)) {
			for _, s := range sidesOfCuts() {
				part, _ := s.clip(l, at)
				for _, p := range part {
					place := p.X
					if s.byY {
						place = p.Y
					}
					order := plainRat(place).Cmp(plainRat(at))
					if s.high && order < 0 || !s.high && order > 0 {
						t.Fatalf("%s%v at %v: %v is on the other side", s.name(), l, at, p)
					}
					if isAmong(l, p) {
						continue
					}
					met++
					if !sameRat(place, at) || !isOnRing(l, plainPts([]impl.RPt{p})[0]) {
						t.Fatalf("%s%v at %v: %v is not where the ring meets the cut", s.name(), l, at, p)
					}
				}
			}
		}
	}
	if met < 1000 {
		t.Error("too few points between others:", met)
	}
}

// All points of the ring on a side are told, in their order; of what a side has the same side has all.
func TestClipKeepsPointsAndOrder(t *testing.T) {
	r := fixed(167)
	for _, l := range ringsOfAll(r) {
		for _, at := range cutsAmong(l) {
			for _, s := range sidesOfCuts() {
				part, ok := s.clip(l, at)
				if !ok {
					continue
				}
				from := 0
				for _, p := range l {
					order := s.into(plainPts([]impl.RPt{p})[0]).x.Cmp(s.at(plainRat(at)))
					if order > 0 {
						continue
					}
					next := slices.IndexFunc(part[from:], func(q impl.RPt) bool { return sameRPt(p, q) })
					if next < 0 {
						t.Fatalf("%s%v at %v: %v is missing or out of order in %v", s.name(), l, at, p, part)
					}
					from += next + 1
				}
				again, ok := s.clip(part, at)
				wantCurve(t, s.name()+"twice", again, ok, part)
			}
		}
	}
}

// Begun at another point the same points are told, begun at another one.
func TestClipBegunElsewhere(t *testing.T) {
	r := fixed(168)
	for range 100 {
		l, at := smallCurve(r, 1+r.IntN(20), 5, 2), smallRat(r, 5, 2)
		for _, s := range sidesOfCuts() {
			part, ok := s.clip(l, at)
			from := r.IntN(len(l))
			other, is := s.clip(append(cloneCurve(l[from:]), l[:from]...), at)
			same := len(part) == 0 && len(other) == 0
			for i := range part {
				same = same || sameCurve(append(cloneCurve(part[i:]), part[:i]...), other)
			}
			if ok != is || !same {
				t.Fatalf("%s%v at %v: %v %v, begun at %d: %v %v", s.name(), l, at, part, ok, from, other, is)
			}
		}
	}
}

type boxRow struct{ why, ring, lo, hi, want string }

func boxRows() []boxRow {
	square := "0,0 4,0 4,4 0,4"
	return []boxRow{
		{"no point", "", "0,0", "1,1", ""},
		{"one point within", "1/2,1/3", "0,0", "1,1", "1/2,1/3"},
		{"one point at a corner", "1,1", "0,0", "1,1", "1,1"},
		{"one point without", "1/2,4/3", "0,0", "1,1", ""},
		{"a corner of a square", square, "0,0", "1,1", "0,1 0,0 1,0 1,1"},
		{"a part within a square", square, "1,1", "3,3", "1,3 1,1 3,1 3,3"},
		{"a part of a square beyond it", square, "3,-1", "6,2", "3,2 3,0 4,0 4,2"},
		{"lo is hi in X", square, "2,1", "2,3", "2,3 2,1 2,1 2,3"},
		{"lo is hi in Y", square, "1,2", "3,2", "1,2 1,2 3,2 3,2"},
		{"lo is hi", square, "2,2", "2,2", "2,2 2,2 2,2 2,2"},
		{"lo is hi, without", square, "5,2", "5,2", ""},
		{"the box holds all", square, "-1,-1", "5,5", square},
		{"the box is what there is", square, "0,0", "4,4", square},
		{"the box holds nothing, to the right", square, "5,0", "6,4", ""},
		{"the box holds nothing, to the left", square, "-2,0", "-1,4", ""},
		{"the box holds nothing, above", square, "0,9/2", "4,5", ""},
		{"the box holds nothing, below", square, "0,-5", "4,-1/2", ""},
		{"the box touches a corner", square, "4,4", "5,5", "4,4 4,4 4,4 4,4"},
		{"the box touches a side", square, "4,1", "5,2", "4,2 4,1 4,1 4,2"},
		{"a triangle without a corner in the box", "-4,0 4,-4 4,4", "1,-1", "2,1", "2,-1 2,1 1,1 1,-1"},
		{"a triangle of fractions", "-1/2,-1/2 1/2,-1/2 0,3/2", "-1/4,-1", "1/4,1/2", "-1/4,1/2 -1/4,1/2 -1/4,-1/2 1/4,-1/2 1/4,1/2 1/4,1/2"},
	}
}

func TestClipBoxWrittenOut(t *testing.T) {
	for _, c := range boxRows() {
		part, ok := impl.ClipBox(curveFrom(c.ring), rptFrom(c.lo), rptFrom(c.hi))
		what := c.why + ": ClipBox " + c.ring + " from " + c.lo + " to " + c.hi
		wantCurve(t, what, part, ok, curveFrom(c.want))
	}
}

// boxesAmong have corners among the cuts of a ring.
func boxesAmong(l []impl.RPt) [][2]impl.RPt {
	cuts := cutsAmong(l)
	slices.SortFunc(cuts, func(a, b impl.Rat) int { return plainRat(a).Cmp(plainRat(b)) })
	n := len(cuts)
	all := [][2]impl.RPt{}
	for i := range n {
		all = append(all, [2]impl.RPt{rpt(cuts[0], cuts[i/2]), rpt(cuts[i], cuts[n-1-i/2])}, [2]impl.RPt{rpt(cuts[i], cuts[i]), rpt(cuts[n-1], cuts[min(i+1, n-1)])})
	}
	return all
}

func TestClipBoxOfAll(t *testing.T) {
	r := fixed(169)
	many := map[bool]int{}
	for _, l := range ringsOfAll(r) {
		for _, box := range boxesAmong(l) {
			many[checkBox(t, l, box[0], box[1])]++
		}
	}
	for range 300 {
		l := smallCurve(r, r.IntN(24), 5, 2)
		lo := rpt(smallRat(r, 3, 2), smallRat(r, 3, 2))
		x, y := plainRat(lo.X), plainRat(lo.Y)
		hi := rpt(fromPlainRat(x.Add(x, big.NewRat(int64(r.IntN(5)), 2))), fromPlainRat(y.Add(y, big.NewRat(int64(r.IntN(5)), 2))))
		many[checkBox(t, l, lo, hi)]++
	}
	if many[true] < 800 || many[false] < 40 {
		t.Error("told and not:", many)
	}
}

// As the document says it: four sides one behind the other, where what is told on the way are rings.
func TestClipBoxBySides(t *testing.T) {
	r := fixed(170)
	many := 0
	for _, l := range ringsOfAll(r) {
		for _, box := range boxesAmong(l) {
			part, ok := impl.ClipHigh(l, false, box[0].X)
			if ok {
				part, ok = impl.ClipLow(part, false, box[1].X)
			}
			if ok {
				part, ok = impl.ClipHigh(part, true, box[0].Y)
			}
			if ok {
				part, ok = impl.ClipLow(part, true, box[1].Y)
			}
			if ok {
				many++
				got, is := impl.ClipBox(l, box[0], box[1])
				wantCurve(t, "ClipBox", got, is, part)
			}
		}
	}
	if many < 500 {
		t.Error("too few are told:", many)
	}
}

func TestClipBoxWithLoAboveHi(t *testing.T) {
	for _, l := range edgeRings() {
		for _, c := range [][2]string{{"1,0", "0,1"}, {"0,1", "1,0"}, {"1,1", "0,0"}, {"1/2,0", "1/3,0"}, {"0,1/2", "0,1/3"}, {"-1/3,-5", "-1/2,5"}, {"0,0", "-1/4294967295,0"}} {
			part, ok := impl.ClipBox(l, rptFrom(c[0]), rptFrom(c[1]))
			if ok || len(part) > 0 {
				t.Errorf("ClipBox %v from %s to %s: %v %v", l, c[0], c[1], part, ok)
			}
		}
	}
}

func TestRingOf(t *testing.T) {
	ring, ok := impl.RingOf(wayOf(0, 0, 2, -4, -1, 7))
	wantCurve(t, "RingOf the fewest corners", ring, ok, curveFrom("0,0 2,-4 -1,7"))
	ring, ok = impl.RingOf(wayOf(far, -far, -far, far, far, far, -far, -far))
	wantCurve(t, "RingOf at the edges", ring, ok, curveFrom("1000,-1000 -1000,1000 1000,1000 -1000,-1000"))
	ring, ok = impl.RingOf(comb(9))
	wantCurve(t, "RingOf the most corners", ring, ok, curveFrom("0,0 10,0 10,9 8,9 8,2 6,2 6,9 4,9 4,2 2,2 2,9 0,9"))
	r := fixed(171)
	for n := 3; n <= impl.MaxCorners; n++ {
		for _, wide := range []int{0, 1, 9, far} {
			l := somePts(r, n, wide)
			ring, ok := impl.RingOf(l)
			wantRing(t, "RingOf", ring, ok, ringFrom(l))
		}
	}
}

func TestFlipRing(t *testing.T) {
	for _, c := range [][2]string{{"", ""}, {"-1/2,3", "-1/2,3"}, {"1,2 3,4", "3,4 1,2"}, {"1,2 3,-4 5/6,7", "5/6,7 3,-4 1,2"}} {
		back, ok := impl.FlipRing(curveFrom(c[0]))
		wantCurve(t, "FlipRing "+c[0], back, ok, curveFrom(c[1]))
	}
	for _, l := range ringsOfAll(fixed(172)) {
		back, ok := impl.FlipRing(l)
		wantRing(t, "FlipRing", back, ok, backwardsCurve(l))
		again, ok := impl.FlipRing(back)
		wantRing(t, "FlipRing twice", again, ok, l)
	}
}

func TestGoodRing(t *testing.T) {
	for _, l := range ringsOfAll(fixed(173)) {
		if !impl.GoodRing(l) {
			t.Errorf("GoodRing %v: false", l)
		}
	}
	for n := range 2 * impl.MaxRing {
		if is := impl.GoodRing(slices.Repeat(curveFrom("1/2,-3"), n)); is != (n <= impl.MaxRing) {
			t.Errorf("GoodRing of %d points: %v", n, is)
		}
	}
}
