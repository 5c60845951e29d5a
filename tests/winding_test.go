package tests

import (
	"testing"

	"loop.example/g00409/impl"
)

func TestOnWayWrittenOut(t *testing.T) {
	for _, c := range []struct {
		why  string
		l    []impl.Pt
		p    impl.Pt
		want bool
	}{
		{"the first corner", square(4), pt(0, 0), true},
		{"a corner", square(4), pt(4, 4), true},
		{"the last corner", square(4), pt(0, 4), true},
		{"on the first segment", square(4), pt(3, 0), true},
		{"on the last segment", square(4), pt(0, 1), true},
		{"on a segment's line behind its end", square(4), pt(5, 0), false},
		{"on a segment's line ahead of its beginning", square(4), pt(-1, 4), false},
		{"on an upright segment's line", square(4), pt(4, 5), false},
		{"beside a segment, within", square(4), pt(1, 1), false},
		{"beside a segment, without", square(4), pt(2, -1), false},
		{"within", square(4), pt(2, 2), false},
		{"far away", square(4), pt(-far, far), false},
		{"on a segment askew", wayOf(0, 0, 9, 3, 0, 6), pt(6, 2), true},
		{"just above a segment askew", wayOf(0, 0, 9, 3, 0, 6), pt(6, 3), false},
		{"just below a segment askew", wayOf(0, 0, 9, 3, 0, 6), pt(6, 1), false},
		{"on its line beyond its end", wayOf(0, 0, 9, 3, 0, 6), pt(12, 4), false},
		{"where it crosses itself", wayOf(0, 0, 4, 4, 4, 0, 0, 4), pt(2, 2), true},
		{"a way of one point, at it", wayOf(5, 5, 5, 5, 5, 5), pt(5, 5), true},
		{"a way of one point, beside it", wayOf(5, 5, 5, 5, 5, 5), pt(5, 6), false},
		{"there and back, between", wayOf(0, 0, 4, 0, 2, 0), pt(3, 0), true},
		{"there and back, beyond", wayOf(0, 0, 4, 0, 2, 0), pt(5, 0), false},
		{"at the corner of the grid", square(4), pt(far, far), false},
		{"on the edge of the grid", wayOf(-far, -far, far, -far, far, far), pt(far, 17), true},
		{"on the longest segment", wayOf(-far, -far, far, -far, far, far), pt(-999, -999), true},
		{"beside the longest segment", wayOf(-far, -far, far, -far, far, far), pt(-999, -998), false},
	} {
		t.Log(c.why)
		on, ok := impl.OnWay(c.l, c.p)
		wantFlag(t, "OnWay", c, on, ok, c.want)
	}
}

// A roundCase has the point's place in the words of the chapter.
type roundCase struct {
	why                string
	l                  []impl.Pt
	p                  impl.Pt
	winding, crossings int
}

func roundCases() []roundCase {
	s := square(4)
	right := wayOf(0, 0, 0, 4, 4, 4, 4, 0)
	diamond := wayOf(4, 0, 8, 4, 4, 8, 0, 4)
	stairs := wayOf(0, 0, 8, 0, 8, 4, 4, 4, 4, 8, 0, 8)
	eaves := wayOf(0, 0, 4, 0, 4, 4, 8, 4, 8, 8, 0, 8)
	eight := wayOf(0, 0, 4, 4, 4, 0, 0, 4)
	whole := wayOf(-far, -far, far, -far, far, far, -far, far)
	half := wayOf(-far, -far, far, -far, far, far)
	return []roundCase{
		{"within, to the left", s, pt(1, 1), 1, 1},
		{"within, to the right", right, pt(1, 1), -1, 1},
		{"without, left of it", s, pt(-1, 1), 0, 2},
		{"without, right of it", s, pt(5, 1), 0, 0},
		{"above it", s, pt(2, 5), 0, 0},
		{"below it", s, pt(2, -1), 0, 0},
		{"on the line of the lower segment, ahead of it: lower ends count", s, pt(-1, 0), 0, 2},
		{"on the line of the lower segment, behind it", s, pt(5, 0), 0, 0},
		{"on the line of the upper segment, ahead of it: upper ends do not count", s, pt(-1, 4), 0, 0},
		{"on the line of an upright segment, above it", s, pt(0, 5), 0, 0},
		{"on the line of an upright segment, below it", s, pt(0, -1), 0, 0},
		{"the row goes through the lowest corner: both segments count", diamond, pt(-2, 0), 0, 2},
		{"the row goes through the highest corner: none counts", diamond, pt(-2, 8), 0, 0},
		{"the row goes through both corners at the sides, without", diamond, pt(-2, 4), 0, 2},
		{"the row goes through both corners at the sides, within", diamond, pt(3, 4), 1, 1},
		{"the row goes through both corners at the sides, behind them", diamond, pt(10, 4), 0, 0},
		{"the same to the right, the lowest corner", backwards(diamond), pt(-2, 0), 0, 2},
		{"the same to the right, the highest corner", backwards(diamond), pt(-2, 8), 0, 0},
		{"the same to the right, within", backwards(diamond), pt(3, 4), -1, 1},
		{"along a step, within", stairs, pt(2, 4), 1, 1},
		{"along a step, without", stairs, pt(-1, 4), 0, 2},
		{"along a step, behind it", stairs, pt(9, 4), 0, 0},
		{"above a step", stairs, pt(5, 5), 0, 0},
		{"along the eaves, within", eaves, pt(2, 4), 1, 1},
		{"along the eaves, without", eaves, pt(-1, 4), 0, 2},
		{"below the eaves", eaves, pt(5, 3), 0, 0},
		{"two lowest corners of teeth in the row", wayOf(0, 9, 2, 0, 4, 9, 6, 0, 8, 9), pt(-1, 0), 0, 4},
		{"one of them behind the point", wayOf(0, 9, 2, 0, 4, 9, 6, 0, 8, 9), pt(4, 0), 0, 2},
		{"two highest corners of teeth in the row", wayOf(0, 0, 2, 9, 4, 0, 6, 9, 8, 0), pt(-1, 9), 0, 0},
		{"a comb, between two teeth", comb(9), pt(7, 5), 0, 2},
		{"a comb, in a tooth", comb(9), pt(5, 5), 1, 3},
		{"a comb, along the tops", comb(9), pt(-1, 9), 0, 0},
		{"a comb, along the grounds, within", comb(9), pt(5, 2), 1, 3},
		{"a comb, along the grounds, without", comb(9), pt(-1, 2), 0, 6},
		{"twice round", inARow(s, s), pt(1, 1), 2, 2},
		{"three times round, by MaxCorners points", inARow(s, s, s), pt(1, 1), 3, 3},
		{"three times to the right", backwards(inARow(s, s, s)), pt(1, 1), -3, 3},
		{"once to the left, once to the right", inARow(s, right), pt(1, 1), 0, 2},
		{"twice to the left, once to the right", inARow(s, s, right), pt(1, 1), 1, 3},
		{"one to the left, twice to the right", inARow(s, right, right), pt(1, 1), -1, 3},
		{"an eight, the half to the left", eight, pt(1, 2), 1, 3},
		{"an eight, the half to the right", eight, pt(3, 2), -1, 1},
		{"an eight, above where it crosses itself", eight, pt(2, 3), 0, 2},
		{"an eight, below where it crosses itself", eight, pt(2, 1), 0, 2},
		{"an eight, along its lower ends", eight, pt(-1, 0), 0, 4},
		{"an eight, along its upper ends", eight, pt(-1, 4), 0, 0},
		{"the middle of a star", star(), pt(3, 2), -2, 2},
		{"the middle of a star, to the left", backwards(star()), pt(3, 2), 2, 2},
		{"between two points of a star", star(), pt(3, 0), 0, 2},
		{"a way of one point, left of it", wayOf(5, 5, 5, 5, 5, 5), pt(4, 5), 0, 0},
		{"a way along the row", wayOf(0, 0, 4, 0, 9, 0), pt(-1, 0), 0, 0},
		{"an upright way, left of its lower end", wayOf(0, 0, 0, 4, 0, 4), pt(-1, 0), 0, 2},
		{"an upright way, left of its upper end", wayOf(0, 0, 0, 4, 0, 4), pt(-1, 4), 0, 0},
		{"an upright way, beyond its end", wayOf(0, 0, 0, 4, 0, 2), pt(0, 5), 0, 0},
		{"the whole grid", whole, pt(0, 0), 1, 1},
		{"the whole grid, in its corner", whole, pt(far-1, far-1), 1, 1},
		{"the whole grid, in its other corner", whole, pt(1-far, 1-far), 1, 1},
		{"half of the grid, in the corner without", half, pt(-far, far), 0, 0},
		{"half of the grid, just above its longest segment", half, pt(0, 1), 0, 2},
		{"half of the grid, just below its longest segment", half, pt(1, 0), 1, 1},
		{"a needle over the whole grid, beside it", wayOf(-far, -far, far, far, far, far-1), pt(0, 1), 0, 2},
		{"a needle over the whole grid, on the other side", wayOf(-far, -far, far, far, far, far-1), pt(1, 0), 0, 0},
		{"left of all, at the edge", square(4), pt(-far, 2), 0, 2},
		{"right of all, at the edge", square(4), pt(far, 2), 0, 0},
	}
}

func TestRoundWrittenOut(t *testing.T) {
	for _, c := range roundCases() {
		t.Log(c.why)
		wantRound(t, c.l, c.p, false, c.winding, c.crossings)
	}
}

// On the way no count is told, wherever on it.
func TestRoundOnTheWay(t *testing.T) {
	for _, l := range windingWays() {
		for i, a := range l {
			steps := stepsOf(a, l[(i+1)%len(l)])
			for _, p := range []impl.Pt{a, steps[len(steps)/2], steps[len(steps)-1]} {
				wantRound(t, l, p, true, 0, 0)
			}
		}
	}
}

func TestInsideByEvenAndNot(t *testing.T) {
	s := square(4)
	for _, c := range []struct {
		l                 []impl.Pt
		p                 impl.Pt
		byEven, notByEven bool
	}{
		{s, pt(1, 1), true, true}, {s, pt(-1, 1), false, false}, {s, pt(5, 1), false, false}, {backwards(s), pt(1, 1), true, true},
		{inARow(s, s), pt(1, 1), false, true}, {backwards(inARow(s, s)), pt(1, 1), false, true}, {star(), pt(3, 2), false, true}, {star(), pt(3, 4), true, true}, {star(), pt(0, 0), false, false},
		{inARow(s, s, s), pt(1, 1), true, true}, {inARow(s, wayOf(0, 0, 0, 4, 4, 4, 4, 0)), pt(1, 1), false, false}, {comb(9), pt(5, 5), true, true}, {comb(9), pt(7, 5), false, false},
	} {
		in, ok := impl.Inside(c.l, c.p, true)
		wantFlag(t, "Inside by even", c, in, ok, c.byEven)
		in, ok = impl.Inside(c.l, c.p, false)
		wantFlag(t, "Inside not by even", c, in, ok, c.notByEven)
	}
}

func wantBox(t *testing.T, l []impl.Pt, wantLo, wantHi impl.Pt) {
	t.Helper()
	lo, hi, ok := impl.BoxOf(l)
	if lo != wantLo || hi != wantHi || !ok {
		t.Fatalf("BoxOf %v: %v %v %v, want %v %v", l, lo, hi, ok, wantLo, wantHi)
	}
}

func TestBoxOfWrittenOut(t *testing.T) {
	for _, c := range []struct {
		l      []impl.Pt
		lo, hi impl.Pt
	}{
		{square(4), pt(0, 0), pt(4, 4)}, {wayOf(5, 5, 5, 5, 5, 5), pt(5, 5), pt(5, 5)}, {wayOf(3, 9, 1, 4, 2, -7), pt(1, -7), pt(3, 9)}, {wayOf(-3, -9, -1, -4, -2, -7), pt(-3, -9), pt(-1, -4)},
		{wayOf(0, 0, 4, 0, 9, 0), pt(0, 0), pt(9, 0)}, {wayOf(4, 0, 8, 4, 4, 8, 0, 4), pt(0, 0), pt(8, 8)},
		{wayOf(-far, 0, 0, -far, far, 0, 0, far), pt(-far, -far), pt(far, far)}, {wayOf(far, far, far-1, far, far, far-1), pt(far-1, far-1), pt(far, far)}, {wayOf(-far, -far, -far, -far, -far, -far), pt(-far, -far), pt(-far, -far)},
		{wayOf(far, 1, far, 2, far, 3), pt(far, 1), pt(far, 3)}, {wayOf(1, -far, 2, -far, 3, -far), pt(1, -far), pt(3, -far)}, {wayOf(-far, far, far, -far, 0, 0), pt(-far, -far), pt(far, far)},
		{comb(9), pt(0, 0), pt(10, 9)},
	} {
		wantBox(t, c.l, c.lo, c.hi)
	}
}

// Each side of the box hangs on each corner in its turn.
func TestBoxOfSome(t *testing.T) {
	r := fixed(94)
	for n := 3; n <= impl.MaxCorners; n++ {
		for at := range n {
			for _, p := range wayOf(far, 0, -far, 0, 0, far, 0, -far, far, far, -far, -far) {
				l := somePts(r, n, far-1)
				l[at] = p
				lo, hi := plainBox(l)
				wantBox(t, l, lo, hi)
			}
		}
	}
}

// plainSum goes through the box by what WindingAt tells, and by quarters: both must be alike.
func plainSum(t *testing.T, l []impl.Pt) int {
	t.Helper()
	on := ptsOn(l)
	lo, hi := plainBox(l)
	sum, told := 0, 0
	for _, p := range inBox(lo, hi) {
		if winding, ok := impl.WindingAt(l, p); ok {
			told += winding
		}
		if !on[p] {
			sum += plainWinding(l, p)
		}
	}
	if sum != told {
		t.Fatalf("%v: WindingAt of all points together %d, by quarters %d", l, told, sum)
	}
	return sum
}

func TestWindingSumWrittenOut(t *testing.T) {
	s := square(4)
	for _, c := range []struct {
		l    []impl.Pt
		want int
	}{
		{s, 9}, {backwards(s), -9}, {inARow(s, s), 18}, {inARow(s, s, s), 27}, {inARow(s, wayOf(0, 0, 0, 4, 4, 4, 4, 0)), 0}, {inARow(s, s, wayOf(0, 0, 0, 4, 4, 4, 4, 0)), 9},
		{wayOf(0, 0, 1, 0, 0, 1), 0}, {wayOf(0, 0, 3, 0, 0, 3), 1}, {wayOf(5, 5, 5, 5, 5, 5), 0}, {wayOf(4, 0, 8, 4, 4, 8, 0, 4), 25}, {comb(9), 9 + 3*7}, {backwards(comb(9)), -9 - 3*7},
		// Eights: the half to the left has one point within, the half to the right one, and then four.
		{wayOf(0, 0, 4, 4, 4, 0, 0, 4), 1 - 1}, {wayOf(0, 0, 4, 4, 5, 4, 5, 0, 4, 0, 0, 4), 1 - 4},
		{wayOf(far, far, far-4, far, far-4, far-4, far, far-4), 9}, {wayOf(-far, -far, -far, 4-far, 4-far, 4-far, 4-far, -far), -9},
	} {
		sum, ok := impl.WindingSum(c.l)
		wantInt(t, "WindingSum", c.l, sum, ok, c.want)
		wantInt(t, "the sum of all", c.l, plainSum(t, c.l), true, c.want)
	}
}

// boxWay is round a box with as many points as given each way.
func boxWay(wide, high int, at impl.Pt) []impl.Pt {
	return wayOf(at.X, at.Y, at.X+wide-1, at.Y, at.X+wide-1, at.Y+high-1, at.X, at.Y+high-1)
}

// A box of 400 points is summed up, one of more is not: so for all shapes of boxes about the limit.
func TestWindingSumLimit(t *testing.T) {
	exactly := 0
	for wide := 1; wide <= 401; wide++ {
		for high := max(1, 400/wide-1); high <= 400/wide+2; high++ {
			for _, at := range []impl.Pt{pt(0, 0), pt(-far, -far), pt(far-wide+1, far-high+1), pt(-wide/2, -high/2)} {
				l := boxWay(wide, high, at)
				sum, ok := impl.WindingSum(l)
				want := 0
				if wide*high <= 400 {
					want = max(0, wide-2) * max(0, high-2)
				}
				if sum != want || ok != (wide*high <= 400) {
					t.Fatalf("WindingSum %v: %d %v, of a box of %d points, want %d", l, sum, ok, wide*high, want)
				}
			}
			if wide*high == 400 {
				exactly++
			}
		}
	}
	if exactly != 15 {
		t.Error("boxes of 400 points:", exactly)
	}
}

// The limit is one of points in the box: a box of few points may be long, and a way in a great box may have few of them within.
func TestWindingSumOfLongBoxes(t *testing.T) {
	for _, l := range [][]impl.Pt{wayOf(0, 0, 399, 0, 7, 0), wayOf(5, far, 5, far-399, 5, far), wayOf(0, 0, 199, 1, 0, 1), wayOf(-far, 0, 199-far, 1, 199-far, 0)} {
		sum, ok := impl.WindingSum(l)
		wantInt(t, "WindingSum", l, sum, ok, 0)
	}
	for _, l := range [][]impl.Pt{
		wayOf(0, 0, 400, 0, 7, 0), wayOf(5, far, 5, far-400, 5, far), wayOf(0, 0, 200, 1, 0, 1), wayOf(0, 0, 20, 20, 1, 0), wayOf(-far, -far, far, far, far, far-1), wayOf(-far, 0, far, 0, 0, 0), wayOf(0, -far, 0, far, 0, 0),
		wayOf(-far, -far, far, -far, far, far, -far, far),
	} {
		wantZero(t, impl.WindingSum, l)
	}
}

func TestWindingSumOfSome(t *testing.T) {
	r := fixed(95)
	signs, beyond := map[int]int{}, 0
	for n := 3; n <= impl.MaxCorners; n++ {
		for _, wide := range []int{2, 6, 9, 10, 12} {
			for range 12 {
				l := somePts(r, n, wide)
				lo, hi := plainBox(l)
				if len(inBox(lo, hi)) > 400 {
					wantZero(t, impl.WindingSum, l)
					beyond++
					continue
				}
				sum, ok := impl.WindingSum(l)
				wantInt(t, "WindingSum", l, sum, ok, plainSum(t, l))
				signs[signOfInt(sum)]++
			}
		}
	}
	if signs[-1] == 0 || signs[0] == 0 || signs[1] == 0 || beyond == 0 {
		t.Error("sums by sign, boxes beyond the limit:", signs, beyond)
	}
}

// A simple way goes round each point within it once.
func TestWindingSumOfSimpleWays(t *testing.T) {
	r := fixed(96)
	for n := 3; n <= impl.MaxCorners; n++ {
		for range 15 {
			l := someSimple(r, n, 9)
			inner, ok := impl.InnerPoints(l)
			if !ok {
				t.Fatalf("InnerPoints %v: refused", l)
			}
			sum, ok := impl.WindingSum(l)
			wantInt(t, "WindingSum", l, sum, ok, signOfInt(plainArea(l))*inner)
		}
	}
}

func wantSplit(t *testing.T, l []impl.Pt, a, b int, wantOne, wantOther []impl.Pt) {
	t.Helper()
	one, other, ok := impl.SplitWay(l, a, b)
	wantPts(t, "SplitWay, from a to b", []any{l, a, b}, one, ok, wantOne)
	wantPts(t, "SplitWay, from b to a", []any{l, a, b}, other, ok, wantOther)
}

func TestSplitWayWrittenOut(t *testing.T) {
	s := wayOf(0, 0, 4, 0, 5, 5, 0, 6)
	wantSplit(t, s, 0, 2, wayOf(0, 0, 4, 0, 5, 5), wayOf(5, 5, 0, 6, 0, 0))
	wantSplit(t, s, 1, 3, wayOf(4, 0, 5, 5, 0, 6), wayOf(0, 6, 0, 0, 4, 0))
	five := wayOf(0, 0, 4, 0, 6, 3, 3, 5, 0, 3)
	wantSplit(t, five, 0, 2, wayOf(0, 0, 4, 0, 6, 3), wayOf(6, 3, 3, 5, 0, 3, 0, 0))
	wantSplit(t, five, 0, 3, wayOf(0, 0, 4, 0, 6, 3, 3, 5), wayOf(3, 5, 0, 3, 0, 0))
	wantSplit(t, five, 1, 4, wayOf(4, 0, 6, 3, 3, 5, 0, 3), wayOf(0, 3, 0, 0, 4, 0))
	wantSplit(t, five, 2, 4, wayOf(6, 3, 3, 5, 0, 3), wayOf(0, 3, 0, 0, 4, 0, 6, 3))
	c := comb(9)
	wantSplit(t, c, 1, 11, wayOf(10, 0, 10, 9, 8, 9, 8, 2, 6, 2, 6, 9, 4, 9, 4, 2, 2, 2, 2, 9, 0, 9), wayOf(0, 9, 0, 0, 10, 0))
	wantSplit(t, c, 0, 10, wayOf(0, 0, 10, 0, 10, 9, 8, 9, 8, 2, 6, 2, 6, 9, 4, 9, 4, 2, 2, 2, 2, 9), wayOf(2, 9, 0, 9, 0, 0))
	wantSplit(t, c, 4, 9, wayOf(8, 2, 6, 2, 6, 9, 4, 9, 4, 2, 2, 2), wayOf(2, 2, 2, 9, 0, 9, 0, 0, 10, 0, 10, 9, 8, 9, 8, 2))
	// Numbers are of points, not of places: alike ones are told apart.
	wantSplit(t, wayOf(1, 1, 1, 1, 1, 1, 1, 1), 0, 2, wayOf(1, 1, 1, 1, 1, 1), wayOf(1, 1, 1, 1, 1, 1))
	wantSplit(t, wayOf(1, 1, 2, 2, 1, 1, 3, 3), 0, 2, wayOf(1, 1, 2, 2, 1, 1), wayOf(1, 1, 3, 3, 1, 1))
}

// All numbers of points and those about them, of ways of all lengths.
func TestSplitWayOfAllNumbers(t *testing.T) {
	r := fixed(97)
	for n := 3; n <= impl.MaxCorners; n++ {
		many := 0
		for a := -3; a <= n+3; a++ {
			for b := -3; b <= n+3; b++ {
				l := somePts(r, n, far)
				if isToldSplit(n, a, b) {
					wantSplit(t, l, a, b, plainSplit(l, a, b), plainSplit(l, b, a))
					many++
				} else {
					wantZero(t, impl.SplitWay, l, a, b)
				}
			}
		}
		// As many as a shape with n corners has lines between corners across it.
		if many != n*(n-3)/2 {
			t.Errorf("%d corners: split by %d pairs of numbers", n, many)
		}
	}
}

func TestSplitWayRefused(t *testing.T) {
	s, c := square(4), comb(9)
	for _, x := range []struct {
		why  string
		l    []impl.Pt
		a, b int
	}{
		{"next to each other", s, 0, 1}, {"next to each other", s, 2, 3}, {"next to each other", c, 10, 11}, {"next to each other", c, 5, 6},
		{"the first and the last one", s, 0, 3}, {"the first and the last one", c, 0, 11},
		{"the same twice", s, 2, 2}, {"the same twice", c, 0, 0}, {"the same twice", c, 11, 11},
		{"falling", s, 2, 0}, {"falling", s, 3, 1}, {"falling", c, 11, 0}, {"falling", c, 9, 4},
		{"below 0", s, -1, 1}, {"below 0", s, -2, 0}, {"below 0", c, -12, 5}, {"below 0", s, -3, -1}, {"below 0", s, 0, -2},
		{"as many as there are", s, 1, 4}, {"as many as there are", s, 2, 4}, {"as many as there are", c, 4, 12}, {"as many as there are", s, 0, 4},
		{"more than there are", s, 4, 6}, {"more than there are", s, 0, 6}, {"more than there are", c, 1, 15},
		{"three points have no two that are not next to each other", wayOf(0, 0, 4, 0, 0, 4), 0, 2}, {"three points", wayOf(0, 0, 4, 0, 0, 4), 0, 1}, {"three points", wayOf(0, 0, 4, 0, 0, 4), 1, 2},
		{"the least number", s, -1 << 63, 2}, {"the greatest number", s, 0, 1<<63 - 1}, {"both", s, -1 << 63, 1<<63 - 1}, {"the greatest one twice", s, 1<<63 - 1, 1<<63 - 1}, {"the least one twice", s, -1 << 63, -1 << 63}, {"far ones, falling", s, 1<<63 - 1, -1 << 63},
	} {
		t.Log(x.why)
		wantZero(t, impl.SplitWay, x.l, x.a, x.b)
	}
}
