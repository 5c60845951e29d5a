package tests

import (
	"testing"

	"loop.example/g00409/impl"
)

func TestLimitsOfPoints(t *testing.T) {
	if impl.MaxCoord != 1000 || impl.MaxCorners != 12 {
		t.Error(impl.MaxCoord, impl.MaxCorners)
	}
}

func TestGoodPt(t *testing.T) {
	for _, p := range wayOf(0, 0, far, far, -far, -far, far, -far, -far, far, far, 0, 0, -far, 1, -1, 999, -999) {
		if !impl.GoodPt(p) {
			t.Error(p, "is a point")
		}
	}
	for _, p := range beyondPts() {
		if impl.GoodPt(p) {
			t.Error(p, "is no point")
		}
	}
}

func TestOrientWrittenOut(t *testing.T) {
	for _, c := range []struct {
		a, b, c impl.Pt
		want    int
	}{
		{pt(0, 0), pt(1, 0), pt(1, 1), 1}, {pt(0, 0), pt(0, 1), pt(1, 1), -1}, {pt(0, 0), pt(1, 1), pt(2, 2), 0},
		{pt(0, 0), pt(2, 2), pt(1, 1), 0}, {pt(1, 1), pt(0, 0), pt(2, 2), 0}, {pt(3, 3), pt(3, 3), pt(7, 1), 0}, {pt(3, 3), pt(7, 1), pt(3, 3), 0}, {pt(7, 1), pt(3, 3), pt(3, 3), 0}, {pt(3, 3), pt(3, 3), pt(3, 3), 0},
		{pt(0, 0), pt(-1, 0), pt(-1, -1), 1}, {pt(0, 0), pt(-1, 0), pt(-1, 1), -1}, {pt(5, 5), pt(6, 5), pt(0, 6), 1}, {pt(5, 5), pt(6, 5), pt(0, 4), -1},
		{pt(-far, -far), pt(far, far), pt(0, 0), 0}, {pt(-far, -far), pt(far, far), pt(0, 1), 1}, {pt(-far, -far), pt(far, far), pt(1, 0), -1}, {pt(-far, far), pt(far, -far), pt(far, far), 1}, {pt(-far, far), pt(far, -far), pt(-far, -far), -1},
		{pt(-far, -far), pt(far, far), pt(far, far-1), -1}, {pt(-far, -far), pt(far, far), pt(far-1, far), 1}, {pt(-far, -far), pt(far-1, far), pt(far, far), -1},
	} {
		turn, ok := impl.Orient(c.a, c.b, c.c)
		wantInt(t, "Orient", c, turn, ok, c.want)
	}
}

func TestOrientOfAll(t *testing.T) {
	turns := map[int]int{}
	eachWay(3, 4, func(l []impl.Pt) {
		turn, ok := impl.Orient(l[0], l[1], l[2])
		wantInt(t, "Orient", l, turn, ok, plainTurn(l[0], l[1], l[2]))
		turns[turn]++
	})
	if turns[1] != turns[-1] || turns[1] == 0 || turns[0] == 0 {
		t.Error("turns:", turns)
	}
}

func TestOrientOfSome(t *testing.T) {
	r := fixed(82)
	for range 1000 {
		a, b, c := somePt(r, far), somePt(r, far), somePt(r, far)
		if r.IntN(3) == 0 {
			// Near the line of both, at times on it.
			c = pt((a.X+b.X)/2, (a.Y+b.Y)/2)
		}
		turn, ok := impl.Orient(a, b, c)
		wantInt(t, "Orient", []impl.Pt{a, b, c}, turn, ok, plainTurn(a, b, c))
		turn, ok = impl.Orient(b, a, c)
		wantInt(t, "Orient", []impl.Pt{b, a, c}, turn, ok, -plainTurn(a, b, c))
	}
}

func TestOnSegmentWrittenOut(t *testing.T) {
	for _, c := range []struct {
		a, b, p impl.Pt
		want    bool
	}{
		{pt(0, 0), pt(4, 0), pt(0, 0), true}, {pt(0, 0), pt(4, 0), pt(4, 0), true}, {pt(0, 0), pt(4, 0), pt(2, 0), true}, {pt(0, 0), pt(4, 0), pt(5, 0), false}, {pt(0, 0), pt(4, 0), pt(-1, 0), false}, {pt(0, 0), pt(4, 0), pt(2, 1), false},
		{pt(0, 4), pt(0, 0), pt(0, 0), true}, {pt(0, 4), pt(0, 0), pt(0, 4), true}, {pt(0, 4), pt(0, 0), pt(0, 3), true}, {pt(0, 4), pt(0, 0), pt(0, 5), false}, {pt(0, 4), pt(0, 0), pt(0, -1), false}, {pt(0, 4), pt(0, 0), pt(1, 2), false},
		{pt(1, 1), pt(7, 4), pt(3, 2), true}, {pt(1, 1), pt(7, 4), pt(5, 3), true}, {pt(1, 1), pt(7, 4), pt(4, 2), false}, {pt(1, 1), pt(7, 4), pt(4, 3), false}, {pt(1, 1), pt(7, 4), pt(9, 5), false}, {pt(1, 1), pt(7, 4), pt(-1, 0), false}, {pt(1, 1), pt(7, 4), pt(7, 1), false},
		{pt(7, -4), pt(1, -1), pt(3, -2), true}, {pt(7, -4), pt(1, -1), pt(-1, 0), false},
		{pt(3, 3), pt(3, 3), pt(3, 3), true}, {pt(3, 3), pt(3, 3), pt(3, 4), false}, {pt(3, 3), pt(3, 3), pt(2, 3), false}, {pt(3, 3), pt(3, 3), pt(0, 0), false},
		{pt(-far, -far), pt(far, far), pt(0, 0), true}, {pt(-far, -far), pt(far, far), pt(far, far), true}, {pt(-far, -far), pt(far, far), pt(far, far-1), false}, {pt(-far, far), pt(far, -far), pt(999, -999), true}, {pt(-far, -far), pt(far, far-1), pt(0, 0), false},
	} {
		on, ok := impl.OnSegment(c.a, c.b, c.p)
		wantFlag(t, "OnSegment", c, on, ok, c.want)
	}
}

func TestOnSegmentOfAll(t *testing.T) {
	eachWay(3, 4, func(l []impl.Pt) {
		on, ok := impl.OnSegment(l[0], l[1], l[2])
		wantFlag(t, "OnSegment", l, on, ok, isOn(l[0], l[1], l[2]))
	})
}

// All points of the grid on a segment, their neighbours, and those that lie on its line beyond both ends.
func TestOnSegmentOfSome(t *testing.T) {
	r := fixed(83)
	for range 200 {
		a, b := somePt(r, 30), somePt(r, 30)
		all := stepsOf(a, b)
		for _, p := range all {
			on, ok := impl.OnSegment(a, b, p)
			wantFlag(t, "OnSegment", []impl.Pt{a, b, p}, on, ok, true)
			for _, by := range wayOf(1, 0, -1, 0, 0, 1, 0, -1) {
				q := pt(p.X+by.X, p.Y+by.Y)
				on, ok := impl.OnSegment(a, b, q)
				wantFlag(t, "OnSegment", []impl.Pt{a, b, q}, on, ok, isOn(a, b, q))
			}
		}
		if len(all) < 2 {
			continue
		}
		by := pt(all[1].X-a.X, all[1].Y-a.Y)
		for _, q := range []impl.Pt{pt(a.X-by.X, a.Y-by.Y), pt(b.X+by.X, b.Y+by.Y)} {
			on, ok := impl.OnSegment(a, b, q)
			wantFlag(t, "OnSegment", []impl.Pt{a, b, q}, on, ok, false)
		}
	}
}

// checkMeet asks for two segments in all their orders.
func checkMeet(t *testing.T, a, b, c, d impl.Pt, want bool) {
	t.Helper()
	for _, l := range [][]impl.Pt{{a, b, c, d}, {b, a, c, d}, {a, b, d, c}, {b, a, d, c}, {c, d, a, b}, {d, c, a, b}, {c, d, b, a}, {d, c, b, a}} {
		meet, ok := impl.SegmentsMeet(l[0], l[1], l[2], l[3])
		wantFlag(t, "SegmentsMeet", l, meet, ok, want)
	}
}

func TestSegmentsMeetWrittenOut(t *testing.T) {
	for _, c := range []struct {
		why  string
		l    []impl.Pt
		want bool
	}{
		{"cross", wayOf(0, 0, 4, 4, 0, 4, 4, 0), true},
		{"cross between points of the grid", wayOf(0, 0, 1, 1, 0, 1, 1, 0), true},
		{"cross far away", wayOf(-far, -far, far, far, -far, far, far, -far), true},
		{"an end on the other one", wayOf(0, 0, 4, 0, 2, 0, 2, 3), true},
		{"an end beside the other one", wayOf(0, 0, 4, 0, 2, 1, 2, 3), false},
		{"an end on the line of the other one, beyond it", wayOf(0, 0, 4, 0, 5, 0, 5, 3), false},
		{"both sides of the line of the other one, beyond it", wayOf(0, 0, 4, 0, 5, -3, 5, 3), false},
		{"both sides of the line of the other one, just beyond it", wayOf(0, 0, 4, 4, 4, 5, 6, 4), false},
		{"an end of both", wayOf(0, 0, 4, 0, 4, 0, 4, 4), true},
		{"straight on", wayOf(0, 0, 4, 0, 4, 0, 9, 0), true},
		{"one on the other, by a part", wayOf(0, 0, 4, 0, 2, 0, 9, 0), true},
		{"one within the other", wayOf(0, 0, 9, 3, 3, 1, 6, 2), true},
		{"one within the other, ended alike", wayOf(0, 0, 9, 3, 0, 0, 6, 2), true},
		{"the same", wayOf(0, 0, 9, 3, 0, 0, 9, 3), true},
		{"on one line, apart", wayOf(0, 0, 4, 0, 5, 0, 9, 0), false},
		{"on one line, askew, apart", wayOf(0, 0, 4, 2, 6, 3, 8, 4), false},
		{"on one line, upright, apart", wayOf(3, 0, 3, 4, 3, 6, 3, 9), false},
		{"on one line, upright, touching", wayOf(3, 0, 3, 4, 3, 4, 3, 9), true},
		{"beside each other", wayOf(0, 0, 4, 0, 0, 1, 4, 1), false},
		{"beside each other, askew", wayOf(0, 0, 4, 4, 1, 0, 5, 4), false},
		{"a point on the other one", wayOf(0, 0, 4, 4, 2, 2, 2, 2), true},
		{"a point at its end", wayOf(0, 0, 4, 4, 4, 4, 4, 4), true},
		{"a point beside it", wayOf(0, 0, 4, 4, 2, 3, 2, 3), false},
		{"a point on its line", wayOf(0, 0, 4, 4, 5, 5, 5, 5), false},
		{"both one point", wayOf(2, 2, 2, 2, 2, 2, 2, 2), true},
		{"two points", wayOf(2, 2, 2, 2, 2, 3, 2, 3), false},
	} {
		t.Log(c.why)
		checkMeet(t, c.l[0], c.l[1], c.l[2], c.l[3], c.want)
	}
}

func TestSegmentsMeetOfAll(t *testing.T) {
	many := map[int]int{}
	eachWay(4, 4, func(l []impl.Pt) {
		common := inCommon(l[0], l[1], l[2], l[3])
		many[common]++
		meet, ok := impl.SegmentsMeet(l[0], l[1], l[2], l[3])
		wantFlag(t, "SegmentsMeet", l, meet, ok, common > 0)
	})
	if many[0] == 0 || many[1] == 0 || many[2] == 0 {
		t.Error("points in common:", many)
	}
}

func TestSegmentsMeetOfSome(t *testing.T) {
	r := fixed(84)
	for _, wide := range []int{5, 50, far} {
		for range 300 {
			l := somePts(r, 4, wide)
			checkMeet(t, l[0], l[1], l[2], l[3], inCommon(l[0], l[1], l[2], l[3]) > 0)
		}
	}
}

func TestAreaTwiceWrittenOut(t *testing.T) {
	for _, c := range []struct {
		l    []impl.Pt
		want int
	}{
		{wayOf(0, 0, 4, 0, 4, 3, 0, 3), 24}, {wayOf(0, 0, 0, 3, 4, 3, 4, 0), -24}, {wayOf(0, 0, 1, 0, 0, 1), 1}, {wayOf(0, 0, 0, 1, 1, 0), -1},
		{wayOf(5, 5, 5, 5, 5, 5), 0}, {wayOf(0, 0, 2, 2, 4, 4), 0}, {wayOf(0, 0, 2, 2, 2, 0, 0, 2), 0}, {wayOf(0, 0, 4, 0, 0, 4, 0, 0, 4, 0, 0, 4), 32}, {wayOf(0, 0, 4, 0, 0, 4, 0, 0, 0, 4, 4, 0), 0},
		{wayOf(-far, -far, far, -far, far, far, -far, far), 8 * far * far}, {wayOf(-far, far, far, far, far, -far, -far, -far), -8 * far * far},
		{comb(9), 2 * (10*2 + 3*2*7)}, {backwards(comb(9)), -2 * (10*2 + 3*2*7)},
		// Three times round.
		{append(append(wayOf(-far, -far, far, -far, far, far, -far, far), wayOf(-far, -far, far, -far, far, far, -far, far)...), wayOf(-far, -far, far, -far, far, far, -far, far)...), 24 * far * far},
	} {
		area, ok := impl.AreaTwice(c.l)
		wantInt(t, "AreaTwice", c.l, area, ok, c.want)
	}
}

func TestBorderPointsWrittenOut(t *testing.T) {
	for _, c := range []struct {
		l    []impl.Pt
		want int
	}{
		{wayOf(0, 0, 4, 0, 4, 3, 0, 3), 14}, {wayOf(0, 0, 0, 3, 4, 3, 4, 0), 14}, {wayOf(0, 0, 1, 0, 0, 1), 3}, {wayOf(0, 0, 3, 0, 0, 3), 9}, {wayOf(0, 0, 6, 4, -3, 9), 2 + 1 + 3},
		{wayOf(5, 5, 5, 5, 5, 5), 0}, {wayOf(5, 5, 5, 5, 5, 8), 6}, {wayOf(0, 0, 2, 2, 4, 4), 8}, {wayOf(0, 0, 2, 2, 2, 0, 0, 2), 8},
		{wayOf(-far, -far, far, -far, far, far, -far, far), 8 * far}, {wayOf(-far, -far, far, far, far, far-1), 2*far + 1 + 1}, {wayOf(-far, -far, far, far, -far, -far, far, far), 8 * far},
	} {
		border, ok := impl.BorderPoints(c.l)
		wantInt(t, "BorderPoints", c.l, border, ok, c.want)
	}
}

func TestGcdIntWrittenOut(t *testing.T) {
	for _, c := range []struct{ a, b, want int }{
		{0, 0, 0}, {0, 7, 7}, {7, 0, 7}, {0, -7, 7}, {-7, 0, 7}, {1, 0, 1}, {0, -1, 1}, {1, 1, 1}, {-1, 1, 1}, {12, 18, 6}, {12, -18, 6}, {-12, 18, 6}, {-12, -18, 6}, {18, 12, 6}, {17, 5, 1}, {5, 5, 5}, {5, 10, 5},
		{10000, 10000, 10000}, {-10000, 10000, 10000}, {-10000, -10000, 10000}, {10000, 0, 10000}, {0, -10000, 10000}, {10000, 9999, 1}, {-10000, 7500, 2500}, {6765, 4181, 1}, {9973, 10000, 1},
	} {
		gcd, ok := impl.GcdInt(c.a, c.b)
		wantInt(t, "GcdInt", c, gcd, ok, c.want)
	}
}

// plainGcd tries all numbers from the greatest one on.
func plainGcd(a, b int) int {
	for n := max(away(a), away(b)); n > 0; n-- {
		if a%n == 0 && b%n == 0 {
			return n
		}
	}
	return 0
}

func TestGcdIntOfAll(t *testing.T) {
	for a := -40; a <= 40; a++ {
		for b := -40; b <= 40; b++ {
			gcd, ok := impl.GcdInt(a, b)
			wantInt(t, "GcdInt", []int{a, b}, gcd, ok, plainGcd(a, b))
		}
	}
	r := fixed(85)
	for range 500 {
		times := 1 + r.IntN(100)
		a, b := (r.IntN(20001/times)-10000/times)*times, (r.IntN(20001/times)-10000/times)*times
		gcd, ok := impl.GcdInt(a, b)
		wantInt(t, "GcdInt", []int{a, b}, gcd, ok, plainGcd(a, b))
	}
}

func TestGcdIntBeyond(t *testing.T) {
	for _, wrong := range []int{10001, -10001, 20000, 1 << 62, 1<<63 - 1, -1 << 63} {
		for _, other := range []int{0, 1, -1, 10000, -10000, wrong} {
			wantZero(t, impl.GcdInt, wrong, other)
			wantZero(t, impl.GcdInt, other, wrong)
		}
	}
}

// checkSimple asks from each corner on, and the other way round.
func checkSimple(t *testing.T, l []impl.Pt, want bool) {
	t.Helper()
	for at := range l {
		for _, way := range [][]impl.Pt{begunAt(l, at), backwards(begunAt(l, at))} {
			simple, ok := impl.IsSimple(way)
			wantFlag(t, "IsSimple", way, simple, ok, want)
		}
	}
}

func TestIsSimpleWrittenOut(t *testing.T) {
	for _, l := range simpleWays() {
		checkSimple(t, l, true)
	}
	for _, n := range []int{3, impl.MaxCorners} {
		checkSimple(t, longWay(n), true)
	}
	for _, c := range notSimpleWays() {
		t.Log(c.why)
		checkSimple(t, c.way, false)
	}
}

func TestIsSimpleOfAll(t *testing.T) {
	many := map[bool]int{}
	for _, c := range []struct{ corners, side int }{{3, 4}, {4, 3}, {4, 4}, {5, 3}} {
		eachWay(c.corners, c.side, func(l []impl.Pt) {
			want := isPlainSimple(l)
			many[want]++
			simple, ok := impl.IsSimple(l)
			wantFlag(t, "IsSimple", l, simple, ok, want)
		})
	}
	if many[true] == 0 || many[false] == 0 {
		t.Error("simple ones:", many)
	}
}

func TestIsSimpleOfSome(t *testing.T) {
	r := fixed(86)
	for n := 3; n <= impl.MaxCorners; n++ {
		for _, wide := range []int{3, 12, far} {
			for range 30 {
				l := somePts(r, n, wide)
				checkSimple(t, l, isPlainSimple(l))
			}
			checkSimple(t, someSimple(r, n, wide), true)
		}
	}
}

// One corner of a simple way is put on another corner, on a segment, or on the line of the segment ahead: what is simple hangs on it alone.
func TestIsSimpleOneCornerMoved(t *testing.T) {
	r := fixed(87)
	many := map[bool]int{}
	for n := 4; n <= impl.MaxCorners; n++ {
		for range 40 {
			l := someSimple(r, n, 8)
			from, to := l[r.IntN(len(l))], l[r.IntN(len(l))]
			onLine := stepsOf(from, to)
			l[r.IntN(len(l))] = onLine[r.IntN(len(onLine))]
			want := isPlainSimple(l)
			many[want]++
			checkSimple(t, l, want)
		}
	}
	if many[true] == 0 || many[false] == 0 {
		t.Error("simple ones:", many)
	}
}

func TestTurnAll(t *testing.T) {
	l, ok := impl.TurnAll(wayOf(1, 2, 3, 4, 5, 6))
	wantPts(t, "TurnAll", "three", l, ok, wayOf(1, 2, 5, 6, 3, 4))
	l, ok = impl.TurnAll(wayOf(1, 2, 3, 4, 5, 6, 7, 8))
	wantPts(t, "TurnAll", "four", l, ok, wayOf(1, 2, 7, 8, 5, 6, 3, 4))
	l, ok = impl.TurnAll(wayOf(0, 0, 1, 1, 2, 2, 3, 3, 4, 4, 5, 5, 6, 6, 7, 7, 8, 8, 9, 9, 10, 10, 11, 11))
	wantPts(t, "TurnAll", "twelve", l, ok, wayOf(0, 0, 11, 11, 10, 10, 9, 9, 8, 8, 7, 7, 6, 6, 5, 5, 4, 4, 3, 3, 2, 2, 1, 1))
	l, ok = impl.TurnAll(wayOf(5, 5, 5, 5, 5, 5))
	wantPts(t, "TurnAll", "one point", l, ok, wayOf(5, 5, 5, 5, 5, 5))
	l, ok = impl.TurnAll(wayOf(-far, far, far, -far, far, far))
	wantPts(t, "TurnAll", "the edge", l, ok, wayOf(-far, far, far, far, far, -far))
}

func TestTurnAllTwice(t *testing.T) {
	r := fixed(88)
	for n := 3; n <= impl.MaxCorners; n++ {
		for range 10 {
			l := somePts(r, n, far)
			back, ok := impl.TurnAll(l)
			want := append([]impl.Pt{l[0]}, backwards(l[1:])...)
			wantPts(t, "TurnAll", l, back, ok, want)
			again, ok := impl.TurnAll(back)
			wantPts(t, "TurnAll", back, again, ok, l)
		}
	}
}

func TestMovePts(t *testing.T) {
	for _, c := range []struct {
		l    []impl.Pt
		by   impl.Pt
		want []impl.Pt
	}{
		{wayOf(0, 0, 1, 0, 0, 1), pt(5, -7), wayOf(5, -7, 6, -7, 5, -6)},
		{wayOf(0, 0, 1, 0, 0, 1), pt(0, 0), wayOf(0, 0, 1, 0, 0, 1)},
		{wayOf(0, 0, -1, 0, 0, -1), pt(far, far), wayOf(far, far, far-1, far, far, far-1)},
		{wayOf(0, 0, 1, 0, 0, 1), pt(-far, -far), wayOf(-far, -far, 1-far, -far, -far, 1-far)},
		{wayOf(-far, -far, 0, -far, 0, 0), pt(far, far), wayOf(0, 0, far, 0, far, far)},
		{wayOf(far, far, 0, 0, far, 0), pt(-far, -far), wayOf(0, 0, -far, -far, 0, -far)},
		{wayOf(far, far, -far, -far, far, 0), pt(0, 0), wayOf(far, far, -far, -far, far, 0)},
	} {
		l, ok := impl.MovePts(c.l, c.by)
		wantPts(t, "MovePts", c, l, ok, c.want)
	}
}

// Each corner alone, at each side, meets the edge exactly, and goes beyond it by one.
func TestMovePtsBeyond(t *testing.T) {
	for _, n := range []int{3, impl.MaxCorners} {
		for at := range n {
			for _, by := range wayOf(1, 0, -1, 0, 0, 1, 0, -1, 400, 0, -400, 0, 0, 400, 0, -400) {
				l := longWay(n)
				want := make([]impl.Pt, n)
				if by.X != 0 {
					l[at].X = (far - away(by.X)) * by.X / away(by.X)
				} else {
					l[at].Y = (far - away(by.Y)) * by.Y / away(by.Y)
				}
				for i, p := range l {
					want[i] = pt(p.X+by.X, p.Y+by.Y)
				}
				moved, ok := impl.MovePts(l, by)
				wantPts(t, "MovePts", []any{l, by}, moved, ok, want)
				l[at].X += signOfInt(by.X)
				l[at].Y += signOfInt(by.Y)
				wantZero(t, impl.MovePts, l, by)
			}
		}
	}
}

func signOfInt(n int) int {
	switch {
	case n < 0:
		return -1
	case n > 0:
		return 1
	}
	return 0
}

// By is a point itself: one beyond the grid moves nothing, also not to where all are points again.
func TestMovePtsByNoPoint(t *testing.T) {
	for _, by := range beyondPts() {
		for _, l := range [][]impl.Pt{wayOf(0, 0, 1, 0, 0, 1), wayOf(-far, -far, -far, -far, -far, -far), wayOf(far, far, far, far, far, far), wayOf(-far, far, -far, far, -far, far)} {
			wantZero(t, impl.MovePts, l, by)
		}
	}
}
