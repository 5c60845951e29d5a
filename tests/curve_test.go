package tests

import (
	"testing"

	"loop.example/g00409/impl"
)

func TestMixPtWrittenOut(t *testing.T) {
	for _, c := range []struct{ a, b, at, want string }{
		{"0,0", "2,4", "1/2", "1,2"},
		{"1,-3", "5,7", "0", "1,-3"},
		{"1,-3", "5,7", "1", "5,7"},
		{"1,-3", "5,7", "1/4", "2,-1/2"},
		{"1,-3", "5,7", "2", "9,17"},
		{"1,-3", "5,7", "-1", "-3,-13"},
		{"1,-3", "5,7", "-1/2", "-1,-8"},
		{"1,-3", "5,7", "3/2", "7,12"},
		{"1/2,-1/3", "-2/5,3/7", "2/3", "-1/10,11/63"},
		{"1/2,1/2", "-1/2,-1/2", "1/2", "0,0"},
		{"-5/3,7", "-5/3,7", "9/4", "-5/3,7"},
		{"0,0", "0,0", "-77", "0,0"},
		{"1/6,1/10", "1/3,2/5", "3/5", "4/15,7/25"},
	} {
		got, ok := impl.MixPt(rptFrom(c.a), rptFrom(c.b), ratFrom(c.at))
		wantRPt(t, "MixPt "+c.a+" "+c.b+" "+c.at, got, ok, rptFrom(c.want))
	}
}

// Each two of the edge fractions, as X of both points and as Y, at each edge fraction.
func TestMixPtOfEdges(t *testing.T) {
	all := edgeDraws()
	for i, a := range all {
		for j, b := range all {
			for k, at := range all {
				checkMix(t, rpt(a, all[(i+k)%len(all)]), rpt(b, all[(j+1)%len(all)]), at)
			}
		}
	}
}

func TestMixPtOfSome(t *testing.T) {
	r := fixed(140)
	for range 2000 {
		limbs := 1 + r.IntN(drawLimbs)
		checkMix(t, someRPt(r, limbs), someRPt(r, limbs), someRat(r, limbs))
	}
}

// The first point at 0, the second one at 1; the other way round at what is left of 1.
func TestMixPtEnds(t *testing.T) {
	r := fixed(141)
	for range 300 {
		a, b := someRPt(r, drawLimbs), someRPt(r, drawLimbs)
		p, ok := impl.MixPt(a, b, ratFrom("0"))
		wantRPt(t, "MixPt at 0", p, ok, a)
		p, ok = impl.MixPt(a, b, ratFrom("1"))
		wantRPt(t, "MixPt at 1", p, ok, b)
		p, ok = impl.MixPt(a, a, someRat(r, drawLimbs))
		wantRPt(t, "MixPt of points alike", p, ok, a)
		at := smallRat(r, 99, 9)
		one, ok := impl.MixPt(a, b, at)
		other, is := impl.MixPt(b, a, fromPlainRat(restOf(plainRat(at))))
		wantRPt(t, "MixPt the other way round", one, ok && is, other)
	}
}

func TestCurveAtWrittenOut(t *testing.T) {
	for _, c := range []struct{ curve, at, want string }{
		{"0,0 2,4 4,0", "1/2", "2,2"},
		{"0,0 2,4 4,0", "0", "0,0"},
		{"0,0 2,4 4,0", "1", "4,0"},
		{"0,0 2,4 4,0", "1/4", "1,3/2"},
		{"0,0 2,4 4,0", "2", "8,-16"},
		{"0,0 2,4 4,0", "-1", "-4,-16"},
		{"3/2,-7", "1/2", "3/2,-7"},
		{"3/2,-7", "0", "3/2,-7"},
		{"3/2,-7", "1", "3/2,-7"},
		{"3/2,-7", "-99", "3/2,-7"},
		{"0,0 3,-6", "1/3", "1,-2"},
		{"0,0 3,-6", "-1/3", "-1,2"},
		{"0,0 0,1 1,1 1,0", "1/2", "1/2,3/4"},
		{"0,0 0,1 1,1 1,0", "1/3", "7/27,2/3"},
		{"0,0 0,0 0,0 0,0 1,-1", "1/2", "1/16,-1/16"},
		{"0,0 0,0 0,0 1,-1 0,0", "1/2", "1/4,-1/4"},
		{"0,0 0,0 1,-1 0,0 0,0", "1/2", "3/8,-3/8"},
		{"0,0 0,0 1,-1 0,0 0,0", "1/3", "8/27,-8/27"},
		{"1,0 0,0 0,0 0,0 0,1", "3", "16,81"},
	} {
		got, ok := impl.CurveAt(curveFrom(c.curve), ratFrom(c.at))
		wantRPt(t, "CurveAt "+c.curve+" at "+c.at, got, ok, rptFrom(c.want))
	}
}

func TestCurveAtOfAll(t *testing.T) {
	r := fixed(142)
	for _, c := range curvesOfAll(r) {
		for _, at := range edgeDraws() {
			checkAt(t, c, at)
		}
	}
	for range 400 {
		limbs := 1 + r.IntN(drawLimbs)
		checkAt(t, someCurve(r, 1+r.IntN(impl.MaxDraws), limbs), someRat(r, limbs))
		checkAt(t, smallCurve(r, 1+r.IntN(impl.MaxDraws), 9, 5), smallRat(r, 12, 7))
	}
}

// A curve begins at its first point and ends at its last one; of two points it is what MixPt tells.
func TestCurveAtEnds(t *testing.T) {
	r := fixed(143)
	for _, c := range curvesOfAll(r) {
		p, ok := impl.CurveAt(c, ratFrom("0"))
		wantRPt(t, "CurveAt at 0", p, ok, c[0])
		p, ok = impl.CurveAt(c, ratFrom("1"))
		wantRPt(t, "CurveAt at 1", p, ok, c[len(c)-1])
		if len(c) != 2 {
			continue
		}
		for _, at := range edgeDraws() {
			p, ok = impl.CurveAt(c, at)
			mixed, is := impl.MixPt(c[0], c[1], at)
			wantRPt(t, "CurveAt of two", p, ok && is, mixed)
		}
	}
}

// As the document says it: MixPt of neighbours, and of these again, where all on the way may be given to it.
func TestCurveAtByMixPt(t *testing.T) {
	r := fixed(144)
	for range 300 {
		c, at := smallCurve(r, 1+r.IntN(impl.MaxDraws), 9, 3), smallRat(r, 5, 4)
		row := c
		for len(row) > 1 {
			next := []impl.RPt{}
			for i := range len(row) - 1 {
				p, ok := impl.MixPt(row[i], row[i+1], at)
				if !ok {
					t.Fatalf("MixPt %v %v %v: refused", row[i], row[i+1], at)
				}
				next = append(next, p)
			}
			row = next
		}
		p, ok := impl.CurveAt(c, at)
		wantRPt(t, "CurveAt", p, ok, row[0])
	}
}

func TestSplitCurveWrittenOut(t *testing.T) {
	for _, c := range []struct{ curve, at, first, last string }{
		{"0,0 2,4 4,0", "1/2", "0,0 1,2 2,2", "2,2 3,2 4,0"},
		{"0,0 2,4 4,0", "1/4", "0,0 1/2,1 1,3/2", "1,3/2 5/2,3 4,0"},
		{"0,0 2,4 4,0", "0", "0,0 0,0 0,0", "0,0 2,4 4,0"},
		{"0,0 2,4 4,0", "1", "0,0 2,4 4,0", "4,0 4,0 4,0"},
		{"0,0 2,4 4,0", "2", "0,0 4,8 8,-16", "8,-16 6,-4 4,0"},
		{"0,0 2,4 4,0", "-1", "0,0 -2,-4 -4,-16", "-4,-16 0,8 4,0"},
		{"3/2,-7", "1/2", "3/2,-7", "3/2,-7"},
		{"3/2,-7", "0", "3/2,-7", "3/2,-7"},
		{"3/2,-7", "1", "3/2,-7", "3/2,-7"},
		{"1,2 5,-6", "1/4", "1,2 2,0", "2,0 5,-6"},
		{"0,0 0,1 1,1 1,0", "1/2", "0,0 0,1/2 1/4,3/4 1/2,3/4", "1/2,3/4 3/4,3/4 1,1/2 1,0"},
		{"16,0 0,0 0,16 0,0 0,-16", "1/2", "16,0 8,0 4,4 2,6 1,5", "1,5 0,4 0,0 0,-8 0,-16"},
	} {
		first, last, ok := impl.SplitCurve(curveFrom(c.curve), ratFrom(c.at))
		wantCurve(t, "SplitCurve "+c.curve+" at "+c.at+", first", first, ok, curveFrom(c.first))
		wantCurve(t, "SplitCurve "+c.curve+" at "+c.at+", last", last, ok, curveFrom(c.last))
	}
}

func TestSplitCurveOfAll(t *testing.T) {
	r := fixed(145)
	many := map[bool]int{}
	for _, c := range curvesOfAll(r) {
		for _, at := range edgeDraws() {
			many[checkSplitCurve(t, c, at)]++
		}
	}
	for range 400 {
		many[checkSplitCurve(t, smallCurve(r, 1+r.IntN(impl.MaxDraws), 9, 5), smallRat(r, 12, 7))]++
		many[checkSplitCurve(t, someCurve(r, 1+r.IntN(impl.MaxDraws), 1), smallRat(r, 3, 2))]++
	}
	if many[true] < 400 || many[false] < 200 {
		t.Error("told and not:", many)
	}
}

// Both parts have as many points as the curve; the first one begins where it does, the last one ends so, and they meet at the place; at 0 and at 1 one part is the curve, and the other one a point.
func TestSplitCurveEnds(t *testing.T) {
	r := fixed(146)
	for _, c := range curvesOfAll(r) {
		n := len(c)
		for _, at := range []string{"0", "1", "1/2", "-2", "5/3"} {
			first, last, ok := impl.SplitCurve(c, ratFrom(at))
			if !ok {
				if at == "0" || at == "1" || n == 1 {
					t.Fatalf("SplitCurve %v at %s: refused", c, at)
				}
				continue
			}
			p, is := impl.CurveAt(c, ratFrom(at))
			if len(first) != n || len(last) != n || !sameRPt(first[0], c[0]) || !sameRPt(last[n-1], c[n-1]) || !is || !sameRPt(first[n-1], p) || !sameRPt(last[0], p) {
				t.Fatalf("SplitCurve %v at %s: %v %v, and CurveAt %v", c, at, first, last, p)
			}
			for i := range c {
				if at == "0" && (!sameRPt(first[i], c[0]) || !sameRPt(last[i], c[i])) || at == "1" && (!sameRPt(first[i], c[i]) || !sameRPt(last[i], c[n-1])) {
					t.Fatalf("SplitCurve %v at %s: %v %v", c, at, first, last)
				}
			}
		}
	}
}

func TestRaiseCurveWrittenOut(t *testing.T) {
	for _, c := range []struct{ curve, want string }{
		{"3/2,-7", "3/2,-7 3/2,-7"},
		{"0,0", "0,0 0,0"},
		{"0,0 2,4", "0,0 1,2 2,4"},
		{"1/2,-1/3 -1/2,0", "1/2,-1/3 0,-1/6 -1/2,0"},
		{"0,0 2,4 4,0", "0,0 4/3,8/3 8/3,8/3 4,0"},
		{"3,0 0,0 0,3", "3,0 1,0 0,1 0,3"},
		{"4,0 0,0 0,4 0,0", "4,0 1,0 0,2 0,3 0,0"},
		{"0,0 0,4 4,0 0,4", "0,0 0,3 2,2 3,1 0,4"},
	} {
		raised, ok := impl.RaiseCurve(curveFrom(c.curve))
		wantCurve(t, "RaiseCurve "+c.curve, raised, ok, curveFrom(c.want))
	}
}

func TestRaiseCurveOfAll(t *testing.T) {
	r := fixed(147)
	many := map[bool]int{}
	all := curvesOfAll(r)
	for range 400 {
		all = append(all, smallCurve(r, 1+r.IntN(impl.MaxDraws), 99, 9), someCurve(r, 1+r.IntN(impl.MaxDraws), 1+r.IntN(drawLimbs)))
	}
	for _, c := range all {
		told := checkRaise(t, c)
		if told && len(c) == impl.MaxDraws {
			t.Fatalf("RaiseCurve of %d points: told", len(c))
		}
		many[told]++
		if raised, ok := impl.RaiseCurve(c); ok && (len(raised) != len(c)+1 || !sameRPt(raised[0], c[0]) || !sameRPt(raised[len(c)], c[len(c)-1])) {
			t.Fatalf("RaiseCurve %v: %v", c, raised)
		}
	}
	if many[true] < 300 || many[false] < 150 {
		t.Error("told and not:", many)
	}
}

func TestReverseCurve(t *testing.T) {
	back, ok := impl.ReverseCurve(curveFrom("1,2 3,-4 5/6,7"))
	wantCurve(t, "ReverseCurve", back, ok, curveFrom("5/6,7 3,-4 1,2"))
	back, ok = impl.ReverseCurve(curveFrom("-1/2,3"))
	wantCurve(t, "ReverseCurve of one point", back, ok, curveFrom("-1/2,3"))
	for _, c := range curvesOfAll(fixed(148)) {
		checkReverse(t, c)
	}
}

func TestPowersOfWrittenOut(t *testing.T) {
	for _, c := range []struct{ curve, want string }{
		{"3/2,-7", "3/2,-7"},
		{"0,0", "0,0"},
		{"1,2 4,-2", "1,2 3,-4"},
		{"4,-2 4,-2", "4,-2 0,0"},
		{"0,0 2,4 4,0", "0,0 4,8 0,-8"},
		{"1,1 1,1 1,1", "1,1 0,0 0,0"},
		{"0,0 1,2 2,4", "0,0 2,4 0,0"},
		{"0,0 0,0 1,-1", "0,0 0,0 1,-1"},
		{"1,0 0,1 0,0", "1,0 -2,2 1,-2"},
		{"1,0 0,1 0,0 0,0", "1,0 -3,3 3,-6 -1,3"},
		{"1,0 0,1 0,0 0,0 0,0", "1,0 -4,4 6,-12 -4,12 1,-4"},
		{"0,0 0,0 1,0 0,1 0,0", "0,0 0,0 6,0 -12,4 6,-4"},
		{"0,0 0,0 0,0 0,0 1/2,-5/3", "0,0 0,0 0,0 0,0 1/2,-5/3"},
		{"0,4 1,3 2,2 3,1 4,0", "0,4 4,-4 0,0 0,0 0,0"},
		{"1/2,1/3 -1/2,2/3 1/2,1/3", "1/2,1/3 -2,2/3 2,-2/3"},
	} {
		powers, ok := impl.PowersOf(curveFrom(c.curve))
		wantCurve(t, "PowersOf "+c.curve, powers, ok, curveFrom(c.want))
	}
}

// There is a point for each power, where the highest ones are 0, too; all of them together are the place on the curve.
func TestPowersOfAll(t *testing.T) {
	r := fixed(149)
	all := curvesOfAll(r)
	for range 300 {
		all = append(all, smallCurve(r, 1+r.IntN(impl.MaxDraws), 9, 9), someCurve(r, 1+r.IntN(impl.MaxDraws), drawLimbs))
	}
	for _, c := range all {
		checkPowers(t, c)
		powers, _ := impl.PowersOf(c)
		if len(powers) != len(c) {
			t.Fatalf("PowersOf %v: %v", c, powers)
		}
		xs, ys := coordsOf(powers)
		for _, at := range []impl.Rat{ratFrom("0"), ratFrom("1"), ratFrom("1/2"), ratFrom("-7/3"), someRat(r, drawLimbs)} {
			p, ok := impl.CurveAt(c, at)
			x := plainRat(at)
			wantRPt(t, "CurveAt", p, ok, rpt(fromPlainRat(xs.at(x)), fromPlainRat(ys.at(x))))
		}
	}
}

func TestSweepOfWrittenOut(t *testing.T) {
	for _, c := range []struct{ why, curve, want string }{
		{"one point", "3/2,-7", "0"},
		{"a straight line", "1,0 1,2", "1"},
		{"a straight line back", "1,2 1,0", "-1"},
		{"a straight line askew", "1/2,1/3 -2/5,3/7", "73/420"},
		{"a straight line of three points", "1,0 1,1 1,2", "1"},
		{"a straight line of five points, not evenly", "1,0 1,5 1,-3 1,1/7 1,2", "1"},
		{"a line through 0, 0", "-2,-3 4,6", "0"},
		{"a line from 0, 0 on", "0,0 7,1/2", "0"},
		{"a line through 0, 0, there and back", "-2,-3 4,6 -2,-3", "0"},
		{"a curve above", "0,0 2,4 4,0", "-16/3"},
		{"a curve below", "0,0 2,-4 4,0", "16/3"},
		{"one that comes back", "0,0 4,0 0,4 0,0", "12/5"},
		{"one that comes back the other way round", "0,0 0,4 4,0 0,0", "-12/5"},
		{"one that comes back on itself", "1,1 3,5 1,1", "0"},
		{"a square's corners, and back", "0,0 1,0 1,1 0,1 0,0", "12/35"},
		{"a cubic", "0,0 0,1 1,1 1,0", "-3/5"},
		{"all powers", "1,0 0,1 0,0 0,0 0,0", "2/7"},
		{"points alike", "7,-9 7,-9 7,-9 7,-9 7,-9", "0"},
	} {
		sweep, ok := impl.SweepOf(curveFrom(c.curve))
		wantRat(t, c.why+": SweepOf "+c.curve, sweep, ok, plainRat(ratFrom(c.want)))
	}
}

func TestSweepOfAll(t *testing.T) {
	r := fixed(150)
	for _, c := range curvesOfAll(r) {
		checkSweep(t, c)
	}
	for range 300 {
		checkSweep(t, smallCurve(r, 1+r.IntN(impl.MaxDraws), 9, 9))
		checkSweep(t, someCurve(r, 1+r.IntN(impl.MaxDraws), 1+r.IntN(drawLimbs)))
	}
}

func TestCurveOf(t *testing.T) {
	c, ok := impl.CurveOf(wayOf(0, 0, 2, -4, -1, 7))
	wantCurve(t, "CurveOf", c, ok, curveFrom("0,0 2,-4 -1,7"))
	c, ok = impl.CurveOf(wayOf(5, -6))
	wantCurve(t, "CurveOf one point", c, ok, curveFrom("5,-6"))
	c, ok = impl.CurveOf(wayOf(far, -far, -far, far, far, far, -far, -far, 0, 0))
	wantCurve(t, "CurveOf at the edges", c, ok, curveFrom("1000,-1000 -1000,1000 1000,1000 -1000,-1000 0,0"))
	r := fixed(151)
	for n := 1; n <= impl.MaxDraws; n++ {
		for _, wide := range []int{1, 9, far} {
			l := somePts(r, n, wide)
			want := []impl.RPt{}
			for _, p := range l {
				want = append(want, rpt(whole(impl.BigOf(p.X)), whole(impl.BigOf(p.Y))))
			}
			c, ok := impl.CurveOf(l)
			wantCurve(t, "CurveOf", c, ok, want)
			if !impl.GoodCurve(c) {
				t.Errorf("CurveOf %v: not good", l)
			}
		}
	}
}

func TestGoodCurve(t *testing.T) {
	for _, c := range curvesOfAll(fixed(152)) {
		if !impl.GoodCurve(c) {
			t.Errorf("GoodCurve %v: false", c)
		}
	}
	for n := range 3 * impl.MaxDraws {
		c := make([]impl.RPt, n)
		for i := range c {
			c[i] = rptFrom("1/2,-3")
		}
		if impl.GoodCurve(c) != (n >= 1 && n <= impl.MaxDraws) {
			t.Errorf("GoodCurve of %d points: %v", n, impl.GoodCurve(c))
		}
	}
}
