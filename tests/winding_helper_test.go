package tests

import (
	"math/big"
	"slices"
	"testing"

	"loop.example/g00409/impl"
)

// ptsOn are all points of the grid on a way, walked segment by segment.
func ptsOn(l []impl.Pt) map[impl.Pt]bool {
	on := map[impl.Pt]bool{}
	for i, a := range l {
		for _, p := range stepsOf(a, l[(i+1)%len(l)]) {
			on[p] = true
		}
	}
	return on
}

// quarterOf is in which quarter round p another point lies, 0 to 3 to the left.
func quarterOf(p, other impl.Pt) int {
	dx, dy := other.X-p.X, other.Y-p.Y
	switch {
	case dx > 0 && dy >= 0:
		return 0
	case dx <= 0 && dy > 0:
		return 1
	case dx < 0 && dy <= 0:
		return 2
	}
	return 3
}

// plainWinding sums up by how many quarters each segment goes round a point that is not on the way: no row is looked at, as the program does.
func plainWinding(l []impl.Pt, p impl.Pt) int {
	quarters := 0
	for i, a := range l {
		b := l[(i+1)%len(l)]
		switch (quarterOf(p, b) - quarterOf(p, a) + 4) % 4 {
		case 1:
			quarters++
		case 2:
			quarters += 2 * plainTurn(p, a, b)
		case 3:
			quarters--
		}
	}
	return quarters / 4
}

// plainCrossings finds as a fraction where each segment meets the row of the point.
func plainCrossings(l []impl.Pt, p impl.Pt) int {
	many := 0
	for i, a := range l {
		b := l[(i+1)%len(l)]
		if (a.Y <= p.Y) == (b.Y <= p.Y) {
			continue
		}
		at := big.NewRat(int64((p.Y-a.Y)*(b.X-a.X)), int64(b.Y-a.Y))
		at.Add(at, big.NewRat(int64(a.X), 1))
		if at.Cmp(big.NewRat(int64(p.X), 1)) > 0 {
			many++
		}
	}
	return many
}

// plainBox sorts all X and all Y.
func plainBox(l []impl.Pt) (impl.Pt, impl.Pt) {
	xs, ys := []int{}, []int{}
	for _, p := range l {
		xs, ys = append(xs, p.X), append(ys, p.Y)
	}
	slices.Sort(xs)
	slices.Sort(ys)
	return pt(xs[0], ys[0]), pt(xs[len(xs)-1], ys[len(ys)-1])
}

// inBox are all points of the grid from lo to hi.
func inBox(lo, hi impl.Pt) []impl.Pt {
	all := []impl.Pt{}
	for x := lo.X; x <= hi.X; x++ {
		for y := lo.Y; y <= hi.Y; y++ {
			all = append(all, pt(x, y))
		}
	}
	return all
}

// plainSplit goes on from a corner to the next one, till it comes to the last one.
func plainSplit(l []impl.Pt, from, to int) []impl.Pt {
	part := []impl.Pt{l[from]}
	for at := from; at != to; {
		at++
		if at == len(l) {
			at = 0
		}
		part = append(part, l[at])
	}
	return part
}

// isToldSplit: both numbers are of points, in order, and there is a point between them both ways.
func isToldSplit(n, a, b int) bool {
	return 0 <= a && a < b && b < n && a+1 != b && (b+1)%n != a
}

// square goes round to the left.
func square(side int) []impl.Pt {
	return wayOf(0, 0, side, 0, side, side, 0, side)
}

// inARow puts ways one behind the other, to one way.
func inARow(ways ...[]impl.Pt) []impl.Pt {
	return slices.Concat(ways...)
}

// star crosses itself five times, and goes round its middle twice, to the right.
func star() []impl.Pt {
	return wayOf(0, 3, 6, 3, 1, 0, 3, 5, 5, 0)
}

// windingWays are ways for all that going round may hang on: both directions, more than once, crossings, ledges, folds and edges.
func windingWays() [][]impl.Pt {
	ways := simpleWays()
	for _, c := range notSimpleWays() {
		ways = append(ways, c.way)
	}
	s := square(4)
	return append(ways, s, backwards(s), star(), backwards(star()),
		inARow(s, s), inARow(s, s, s), inARow(backwards(s), backwards(s), backwards(s)), inARow(s, wayOf(0, 0, 0, 4, 4, 4, 4, 0)), inARow(s, s, wayOf(0, 0, 0, 4, 4, 4, 4, 0)),
		wayOf(4, 0, 8, 4, 4, 8, 0, 4), wayOf(0, 0, 8, 0, 8, 4, 4, 4, 4, 8, 0, 8), wayOf(0, 0, 4, 0, 4, 4, 8, 4, 8, 8, 0, 8),
		// Twice round with the inner round away from the outer one.
		wayOf(0, 0, 9, 0, 9, 9, 1, 9, 1, 2, 6, 2, 6, 6, 0, 6),
		longWay(3), longWay(impl.MaxCorners))
}

// aboutWay are the points that answers may turn at: corners, their neighbours, middles of segments, and where corners' rows and columns meet.
func aboutWay(l []impl.Pt) []impl.Pt {
	all := []impl.Pt{}
	for i, a := range l {
		b := l[(i+1)%len(l)]
		for _, at := range []impl.Pt{a, pt((a.X+b.X)/2, (a.Y+b.Y)/2), pt(a.X, b.Y), pt(b.X, a.Y), pt(2*b.X-a.X, 2*b.Y-a.Y)} {
			all = append(all, at, pt(at.X-1, at.Y), pt(at.X+1, at.Y), pt(at.X, at.Y-1), pt(at.X, at.Y+1))
		}
	}
	return slices.DeleteFunc(all, func(p impl.Pt) bool { return !impl.GoodPt(p) })
}

// round is what is told of a way and a point, each with its true.
type round struct {
	on, onTold               bool
	winding                  int
	windingTold              bool
	crossings                int
	crossingsTold            bool
	byEven, byEvenTold       bool
	notByEven, notByEvenTold bool
}

func roundAt(l []impl.Pt, p impl.Pt) round {
	x := round{}
	x.on, x.onTold = impl.OnWay(l, p)
	x.winding, x.windingTold = impl.WindingAt(l, p)
	x.crossings, x.crossingsTold = impl.CrossingsAt(l, p)
	x.byEven, x.byEvenTold = impl.Inside(l, p, true)
	x.notByEven, x.notByEvenTold = impl.Inside(l, p, false)
	return x
}

// wantRound wants what is told to be as given; of a point on the way that is the zero answer but for OnWay.
func wantRound(t *testing.T, l []impl.Pt, p impl.Pt, on bool, winding, crossings int) round {
	t.Helper()
	want := round{on: true, onTold: true}
	if !on {
		want = round{false, true, winding, true, crossings, true, crossings%2 == 1, true, winding != 0, true}
	}
	got := roundAt(l, p)
	if got != want {
		t.Fatalf("%v at %v: %+v, want %+v", l, p, got, want)
	}
	return got
}
