package tests

import (
	"math"
	"math/big"
	"math/rand/v2"
	"slices"
	"strings"
	"testing"

	"loop.example/g00409/impl"
)

// mostSummed is how many fractions may be summed up.
const mostSummed = 64

// lastSquare is the greatest X and Y that a square may have.
const lastSquare = impl.MaxPlace + impl.MaxWindow

func windowOf(x, y, w, h int) impl.Window {
	return impl.Window{X: x, Y: y, W: w, H: h}
}

// squaresRowByRow are those of a window, from the least Y on, in each row from the least X on.
func squaresRowByRow(w impl.Window) []impl.Pt {
	all := []impl.Pt{}
	for y := w.Y; y < w.Y+w.H; y++ {
		for x := w.X; x < w.X+w.W; x++ {
			all = append(all, pt(x, y))
		}
	}
	return all
}

// cornerRPts are the corners of a window with the least X and Y, and with the greatest.
func cornerRPts(w impl.Window) (impl.RPt, impl.RPt) {
	both := ringFrom(wayOf(w.X, w.Y, w.X+w.W, w.Y+w.H))
	return both[0], both[1]
}

func plainMost(a, b *big.Rat) *big.Rat {
	if a.Cmp(b) > 0 {
		return a
	}
	return b
}

func plainLeast(a, b *big.Rat) *big.Rat {
	if a.Cmp(b) < 0 {
		return a
	}
	return b
}

// plainCovered is how much of a window a ring covers, each part as often as it goes round it, by what lies between each segment and the window's least Y: no segment is cut, and no ring is made.
func plainCovered(l []impl.RPt, w impl.Window) *big.Rat {
	least, greatest := cornerRPts(w)
	ends := plainPts([]impl.RPt{least, greatest})
	all, sum := plainPts(l), new(big.Rat)
	for i, a := range all {
		sum.Add(sum, plainUnder(a, all[(i+1)%len(all)], ends[0], ends[1]))
	}
	return sum
}

// plainUnder is above 0 where the segment goes from right to left. As far as it goes over the box, it is held within the box's rows, and what lies under it is made of pieces that go straight.
func plainUnder(a, b, lo, hi plainPt) *big.Rat {
	if a.x.Cmp(b.x) < 0 {
		under := plainUnder(b, a, lo, hi)
		return under.Neg(under)
	}
	sum := new(big.Rat)
	from, to := plainMost(b.x, lo.x), plainLeast(a.x, hi.x)
	if from.Cmp(to) >= 0 {
		return sum
	}
	xs := []*big.Rat{from, to}
	for _, y := range []*big.Rat{lo.y, hi.y} {
		if a.y.Cmp(b.y) != 0 {
			x := onLine(plainPt{a.y, a.x}, plainPt{b.y, b.x}, y)
			xs = append(xs, plainMost(from, plainLeast(to, x)))
		}
	}
	slices.SortFunc(xs, (*big.Rat).Cmp)
	over := func(x *big.Rat) *big.Rat {
		y := plainMost(lo.y, plainLeast(hi.y, onLine(a, b, x)))
		return new(big.Rat).Sub(y, lo.y)
	}
	for i := 1; i < len(xs); i++ {
		piece := new(big.Rat).Add(over(xs[i-1]), over(xs[i]))
		piece.Mul(piece, new(big.Rat).Sub(xs[i], xs[i-1]))
		sum.Add(sum, piece.Mul(piece, big.NewRat(1, 2)))
	}
	return sum
}

// plainShare tells none where a point on the way to the square is too long, or there are too many in the end.
func plainShare(l []impl.RPt, x, y int) (*big.Rat, bool) {
	w := windowOf(x, y, 1, 1)
	lo, hi := cornerRPts(w)
	if _, told := plainClipBox(l, lo, hi); !told {
		return nil, false
	}
	share := plainCovered(l, w)
	return share, fitsMost(share)
}

// fitsMost is whether Num and Den have at most MaxLimbs limbs.
func fitsMost(r *big.Rat) bool {
	return max(r.Num().BitLen(), r.Denom().BitLen()) <= 16*impl.MaxLimbs
}

// plainByte is the byte that is nearest to 255 times the share, the greater one of two as near: it looks at both whole numbers about it.
func plainByte(a *big.Rat) int {
	times := times255(a)
	under := int(new(big.Int).Quo(times.Num(), times.Denom()).Int64())
	if awayFrom(times, under).Cmp(awayFrom(times, under+1)) < 0 {
		return under
	}
	return under + 1
}

// times255 is of how far it is from 0, and of 1 beyond that.
func times255(a *big.Rat) *big.Rat {
	share := plainLeast(new(big.Rat).Abs(a), big.NewRat(1, 1))
	return new(big.Rat).Mul(share, big.NewRat(255, 1))
}

func awayFrom(a *big.Rat, n int) *big.Rat {
	apart := new(big.Rat).Sub(a, big.NewRat(int64(n), 1))
	return apart.Abs(apart)
}

// isByteTold is whether 255 times the share, and that and a half, have at most MaxLimbs limbs.
func isByteTold(a *big.Rat) bool {
	times := times255(a)
	return fitsMost(times) && fitsMost(new(big.Rat).Add(times, big.NewRat(1, 2)))
}

// checkByte wants the zero answer where something on the way is too long; it answers whether a byte is told.
func checkByte(t *testing.T, a impl.Rat) bool {
	t.Helper()
	b, ok := impl.ByteOf(a)
	if !isByteTold(plainRat(a)) {
		if ok || b != 0 {
			t.Fatalf("ByteOf %v: %d %v, want the zero answer", a, b, ok)
		}
		return false
	}
	wantCount(t, "ByteOf "+ratText(t, a), b, ok, plainByte(plainRat(a)))
	return true
}

// checkShare wants the zero answer where no share is told; it answers whether one is.
func checkShare(t *testing.T, l []impl.RPt, x, y int) bool {
	t.Helper()
	share, ok := impl.ShareOf(l, x, y)
	want, told := plainShare(l, x, y)
	if !told {
		if ok || !sameRat(share, impl.Rat{}) {
			t.Fatalf("ShareOf %v at %d %d: %v %v, want the zero answer", l, x, y, share, ok)
		}
		return false
	}
	wantRat(t, "ShareOf "+curveText(t, l), share, ok, want)
	return true
}

// checkShares wants what ShareOf tells of each square, or, where it doesn't tell one, the zero answer; it answers whether they are told.
func checkShares(t *testing.T, l []impl.RPt, w impl.Window) bool {
	t.Helper()
	want, told := []impl.Rat{}, true
	for _, p := range squaresRowByRow(w) {
		share, ok := impl.ShareOf(l, p.X, p.Y)
		want, told = append(want, share), told && ok
	}
	shares, ok := impl.SharesIn(l, w)
	if !told {
		if ok || len(shares) > 0 {
			t.Fatalf("SharesIn %v %v: %v %v, want the zero answer", l, w, shares, ok)
		}
		return false
	}
	if !ok || !samePoly(shares, want) {
		t.Fatalf("SharesIn %v %v: %v %v, want %v", l, w, shares, ok, want)
	}
	return true
}

// checkBytes wants the bytes of what SharesIn tells; it answers whether they are told.
func checkBytes(t *testing.T, l []impl.RPt, w impl.Window) bool {
	t.Helper()
	shares, told := impl.SharesIn(l, w)
	want := []int{}
	for _, a := range shares {
		told = told && isByteTold(plainRat(a))
		want = append(want, plainByte(plainRat(a)))
	}
	bytes, ok := impl.BytesIn(l, w)
	if !told {
		if ok || len(bytes) > 0 {
			t.Fatalf("BytesIn %v %v: %v %v, want the zero answer", l, w, bytes, ok)
		}
		return false
	}
	wantInts(t, "BytesIn", w, bytes, ok, want)
	return true
}

// plainSumTold tells none where a sum from the first one on is too long.
func plainSumTold(l []impl.Rat) (*big.Rat, bool) {
	sum, told := new(big.Rat), len(l) <= mostSummed
	for _, a := range l {
		sum.Add(sum, plainRat(a))
		told = told && fitsMost(sum)
	}
	return sum, told
}

func checkSumOf(t *testing.T, l []impl.Rat) bool {
	t.Helper()
	sum, ok := impl.SumOf(l)
	want, told := plainSumTold(l)
	if !told {
		if ok || !sameRat(sum, impl.Rat{}) {
			t.Fatalf("SumOf %v: %v %v, want the zero answer", l, sum, ok)
		}
		return false
	}
	wantRat(t, "SumOf", sum, ok, want)
	return true
}

// plainCrop goes through all squares of the window, and keeps those of the part.
func plainCrop(w impl.Window, bytes []int, part impl.Window) []int {
	kept := []int{}
	inPart := squaresRowByRow(part)
	for i, p := range squaresRowByRow(w) {
		if slices.Contains(inPart, p) {
			kept = append(kept, bytes[i])
		}
	}
	return kept
}

// ratsFrom reads fractions with a blank between.
func ratsFrom(s string) []impl.Rat {
	all := []impl.Rat{}
	for _, a := range strings.Fields(s) {
		all = append(all, ratFrom(a))
	}
	return all
}

// someBytes are as many as a window has squares.
func someBytes(r *rand.Rand, w impl.Window) []int {
	all := make([]int, w.W*w.H)
	for i := range all {
		all[i] = r.IntN(256)
		if r.IntN(4) == 0 {
			all[i] = 255 * r.IntN(2)
		}
	}
	return all
}

// someWindow lies near 0, 0.
func someWindow(r *rand.Rand) impl.Window {
	return windowOf(r.IntN(12)-9, r.IntN(12)-9, 1+r.IntN(impl.MaxWindow), 1+r.IntN(impl.MaxWindow))
}

// edgeWindows are as far away, as small and as great as may be.
func edgeWindows() []impl.Window {
	all := []impl.Window{}
	for _, x := range []int{-impl.MaxPlace, 0, impl.MaxPlace} {
		for _, y := range []int{-impl.MaxPlace, 0, impl.MaxPlace} {
			for _, w := range []int{1, impl.MaxWindow} {
				for _, h := range []int{1, impl.MaxWindow} {
					all = append(all, windowOf(x, y, w, h))
				}
			}
		}
	}
	return all
}

// wrongWindows have one field that is not as said.
func wrongWindows() []impl.Window {
	all := []impl.Window{{}}
	for _, at := range []int{-impl.MaxPlace - 1, impl.MaxPlace + 1, lastSquare, -99, math.MinInt, math.MinInt + 1, math.MaxInt, math.MaxInt - 1} {
		all = append(all, windowOf(at, 0, 1, 1), windowOf(0, at, 1, 1), windowOf(at, 0, impl.MaxWindow, 2), windowOf(-3, at, 3, impl.MaxWindow))
	}
	for _, n := range []int{0, impl.MaxWindow + 1, -1, -impl.MaxWindow, 64, math.MinInt, math.MinInt + 1, math.MaxInt, math.MaxInt - 1} {
		all = append(all, windowOf(0, 0, n, 1), windowOf(0, 0, 1, n), windowOf(impl.MaxPlace, -impl.MaxPlace, n, 3), windowOf(-2, 2, impl.MaxWindow, n), windowOf(1, 1, n, n))
	}
	return all
}

// ringsInReach are all that reach squares of windows: small ones about 0, 0 with fractions, round to either side, and edge ones.
func ringsInReach(r *rand.Rand) [][]impl.RPt {
	all := edgeRings()
	for range 14 {
		all = append(all, smallCurve(r, r.IntN(9), 6, 4), smallCurve(r, r.IntN(20), 4, 2), smallCurve(r, 3+r.IntN(3), 9, 9), someCurve(r, r.IntN(5), 1+r.IntN(ringLimbs)))
	}
	for i, l := range slices.Clone(all) {
		if i%4 == 0 {
			all = append(all, backwardsCurve(l))
		}
	}
	return all
}

// windowAbout has the whole part of one of a ring's points in it, as far as windows go.
func windowAbout(r *rand.Rand, l []impl.RPt) impl.Window {
	if len(l) == 0 {
		return someWindow(r)
	}
	p := plainPts(l)[r.IntN(len(l))]
	w, h := 1+r.IntN(4), 1+r.IntN(4)
	return windowOf(heldIn(wholeUnder(p.x)-r.IntN(w+1)), heldIn(wholeUnder(p.y)-r.IntN(h+1)), w, h)
}

// wholeUnder is near enough to a for a place; what is too far away is held at 99.
func wholeUnder(a *big.Rat) int {
	if awayFrom(a, 0).Cmp(big.NewRat(99, 1)) > 0 {
		return 99 * a.Sign()
	}
	near, _ := a.Float64()
	return int(math.Floor(near))
}

func heldIn(n int) int {
	return min(max(n, -impl.MaxPlace), impl.MaxPlace)
}
