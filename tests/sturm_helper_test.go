package tests

import (
	"math/big"
	"math/rand/v2"
	"testing"

	"loop.example/g00409/impl"
)

// placeLimbs is how many limbs Num and Den of a place may have.
const placeLimbs = 4

// chain divides the long way by fractions, which the program does not; p must not be 0.
func (p plainPoly) chain() []plainPoly {
	once := p.squareFree()
	all := []plainPoly{once, once.slope()}
	for {
		_, rest := all[len(all)-2].dividedBy(all[len(all)-1])
		if len(rest) == 0 {
			return all
		}
		far := new(big.Rat).Abs(rest[len(rest)-1])
		all = append(all, rest.scaled(far.Neg(far.Inv(far))))
	}
}

func plainChanges(l []*big.Rat) int {
	changes, last := 0, 0
	for _, a := range l {
		if a.Sign()*last < 0 {
			changes++
		}
		if a.Sign() != 0 {
			last = a.Sign()
		}
	}
	return changes
}

// unlikeWithin counts the unlike roots above a and below b by halves and by signs of coefficients alone (Vincent; Descartes), not by a chain.
func (p plainPoly) unlikeWithin(a, b *big.Rat) int {
	return p.squareFree().onceWithin(a, b)
}

func (p plainPoly) onceWithin(a, b *big.Rat) int {
	changes := plainChanges(p.stretchedOut(a, b))
	if changes < 2 {
		return changes
	}
	mid := new(big.Rat).Add(a, b)
	mid.Quo(mid, big.NewRat(2, 1))
	count := p.onceWithin(a, mid) + p.onceWithin(mid, b)
	if p.at(mid).Sign() == 0 {
		count++
	}
	return count
}

// stretchedOut has a root above 0 for each one of p's above a and below b: p at (a and bx) divided by (1 and x), times (1 and x) to the highest power.
func (p plainPoly) stretchedOut(a, b *big.Rat) plainPoly {
	sum := plainPoly{}
	for i, coef := range p {
		part := plainPoly{coef}
		for range i {
			part = part.times(plainPoly{a, b})
		}
		for range len(p) - 1 - i {
			part = part.times(plainPoly{big.NewRat(1, 1), big.NewRat(1, 1)})
		}
		sum = sum.plus(part)
	}
	return sum
}

// unlikeUpTo counts the unlike roots above a and at most b.
func (p plainPoly) unlikeUpTo(a, b *big.Rat) int {
	if a.Cmp(b) >= 0 {
		return 0
	}
	count := p.unlikeWithin(a, b)
	if p.at(b).Sign() == 0 {
		count++
	}
	return count
}

// timesUpTo counts each root as often as it is one: what p and its derivative have in common has each root once less.
func (p plainPoly) timesUpTo(a, b *big.Rat) int {
	count := 0
	for len(p) > 1 {
		count += p.unlikeUpTo(a, b)
		p = p.common(p.slope())
	}
	return count
}

// madeOf multiplies polynomials.
func madeOf(t *testing.T, parts ...[]impl.Rat) []impl.Rat {
	t.Helper()
	p := plainCoefs(wholePoly(1))
	for _, part := range parts {
		p = p.times(plainCoefs(part))
	}
	if !impl.RootsPoly(p.told()) {
		t.Fatalf("%v: %v is no RootsPoly", parts, p)
	}
	return p.told()
}

// root has the one root num divided by den; den must be above 0, and the fraction in its lowest terms.
func root(num, den int) []impl.Rat {
	return wholePoly(-num, den)
}

// noRoot is above 0 on the whole line.
func noRoot() []impl.Rat {
	return wholePoly(1, 0, 1)
}

// edgeRoots are polynomials with as few and as many, and as long coefficients as may be, and with roots that come once, several times, and not at all.
func edgeRoots(t *testing.T) [][]impl.Rat {
	t.Helper()
	far, near := whole(positive(top)), over(positive(1), positive(top))
	mid, most := over(positive(top-1), positive(top)), over(positive(top), positive(top-1))
	return [][]impl.Rat{
		wholePoly(0, 1), wholePoly(0, -1), wholePoly(7, -3), {far, near}, {turnedRat(near), far}, {ratOf(t, -2, 3), ratOf(t, 5, 7)},
		wholePoly(0, 0, 1), wholePoly(0, 1, 1), wholePoly(-2, 0, 1), wholePoly(1, 0, 1), wholePoly(1, -2, 1), wholePoly(-4, 4, -1), {near, far, turnedRat(near)},
		wholePoly(0, -1, 0, 1), wholePoly(-1, 3, -3, 1), wholePoly(2, -5, 4, -1), wholePoly(1, 0, 0, 1), {far, turnedRat(mid), most, turnedRat(far)},
		wholePoly(0, 0, 0, 0, 1), wholePoly(1, 0, 0, 0, 1), wholePoly(-1, 0, 0, 0, 1), wholePoly(1, -4, 6, -4, 1), wholePoly(1, 0, -2, 0, 1), wholePoly(1, 0, 2, 0, 1),
		wholePoly(24, -50, 35, -10, 1), wholePoly(0, 0, -1, 0, -3), {far, turnedRat(near), mid, turnedRat(most), near}, {mid, most, turnedRat(far), near, turnedRat(far)},
		madeOf(t, root(1, 2), root(1, 2), root(-3, 5)), madeOf(t, root(2, 3), noRoot(), root(-7, 1)), madeOf(t, root(180, 181), root(180, 181)),
	}
}

// wrongRoots are no polynomials, or have a coefficient too few or too many, or one with a limb too many.
func wrongRoots(t *testing.T) [][]impl.Rat {
	t.Helper()
	wrong := append(wrongPolys(t), nil, []impl.Rat{}, wholePoly(3), wholePoly(-1), wholePoly(1, 2, 3, 4, 5, 6), wholePoly(0, 0, 0, 0, 0, 1), wholePoly(0, 0, 0, 0, 0, 0, 1))
	for _, long := range []impl.Rat{whole(powerOf(1)), whole(turned(powerOf(1))), over(positive(1), powerOf(1)), over(negative(top), powerOf(1)), over(powerOf(1), positive(top)), whole(longest())} {
		for at := range 5 {
			p := wholePoly(2, 0, -3, 1, 4)
			p[at] = long
			wrong = append(wrong, p)
		}
		wrong = append(wrong, []impl.Rat{long, whole(positive(1))}, []impl.Rat{whole(positive(1)), long})
	}
	return wrong
}

// farPlaces have as many limbs as may be in Num, in Den, and in both.
func farPlaces() []impl.Rat {
	far := positive(limbs(placeLimbs, top)...)
	all := []impl.Rat{whole(far), over(positive(1), far), over(far, powerOf(3)), over(powerOf(3), far)}
	for _, a := range all {
		all = append(all, turnedRat(a))
	}
	return all
}

// noPlaces are no good fractions, or have a limb too many.
func noPlaces() []impl.Rat {
	far := positive(limbs(placeLimbs, top)...)
	return append(wrongRats(), whole(powerOf(4)), whole(turned(powerOf(4))), over(positive(1), powerOf(4)), over(negative(1), powerOf(4)), over(powerOf(4), far), over(far, powerOf(4)), whole(longest()), whole(most()))
}

// someRoots has 2 up to MaxRootsCoefs coefficients of one limb, whole ones or fractions.
func someRoots(r *rand.Rand) []impl.Rat {
	n := 2 + r.IntN(impl.MaxRootsCoefs-1)
	switch r.IntN(3) {
	case 0:
		return smallPoly(r, n, 5)
	case 1:
		return smallPoly(r, n, top)
	}
	return somePoly(r, n, 1)
}

// someMade is of parts with small roots, some of them taken again, and of such with none.
func someMade(t *testing.T, r *rand.Rand) []impl.Rat {
	t.Helper()
	left := 1 + r.IntN(impl.MaxRootsCoefs-1)
	parts := [][]impl.Rat{}
	for left > 0 {
		part := root(r.IntN(7)-3, 1)
		switch r.IntN(4) {
		case 0:
			part = madeOf(t, root(2*r.IntN(5)-5, 2))
		case 1:
			if len(parts) > 0 {
				part = parts[r.IntN(len(parts))]
			}
		case 2:
			part = [][]impl.Rat{noRoot(), wholePoly(5, -4, 1), wholePoly(-2, 0, 1), wholePoly(1, 1, 1)}[r.IntN(4)]
		}
		if len(part)-1 <= left {
			parts = append(parts, part)
			left -= len(part) - 1
		}
	}
	return madeOf(t, parts...)
}

// somePlace is near the roots of small polynomials, often at one, or has as many limbs as may be.
func somePlace(t *testing.T, r *rand.Rand) impl.Rat {
	t.Helper()
	if r.IntN(4) == 0 {
		return someRat(r, placeLimbs)
	}
	return ratOf(t, r.IntN(17)-8, 1+r.IntN(2))
}

func inOrderOf(a, b impl.Rat) (impl.Rat, impl.Rat) {
	if plainRat(a).Cmp(plainRat(b)) > 0 {
		return b, a
	}
	return a, b
}

func wantCount(t *testing.T, what string, n int, ok bool, want int) {
	t.Helper()
	if n != want || !ok {
		t.Fatalf("%s: %d %v, want %d", what, n, ok, want)
	}
}

// shiftsFit is whether the polynomials whose signs BudanCount counts are such as chapter 4 tells.
func shiftsFit(p []impl.Rat, a, b impl.Rat) bool {
	q := plainCoefs(p)
	return q.shifted(plainRat(a)).fits() && q.shifted(plainRat(b)).fits()
}

// wantBudan wants the zero answer where a shifted polynomial does not fit; it answers whether both do.
func wantBudan(t *testing.T, p []impl.Rat, a, b impl.Rat) bool {
	t.Helper()
	n, ok := impl.BudanCount(p, a, b)
	if !shiftsFit(p, a, b) {
		if n != 0 || ok {
			t.Fatalf("BudanCount %v %v %v: %d %v, want the zero answer: a shifted one does not fit", p, a, b, n, ok)
		}
		return false
	}
	from, to := plainCoefs(p).shifted(plainRat(a)), plainCoefs(p).shifted(plainRat(b))
	wantCount(t, "BudanCount", n, ok, plainChanges(from)-plainChanges(to))
	return true
}

func wantChain(t *testing.T, p []impl.Rat) {
	t.Helper()
	chain, ok := impl.ChainOf(p)
	want := plainCoefs(p).chain()
	if !ok || len(chain) != len(want) {
		t.Fatalf("ChainOf %v: %v %v, want %v", p, chain, ok, want)
	}
	for i, q := range want {
		if !samePoly(chain[i], q.told()) {
			t.Fatalf("ChainOf %v: %v at %d, want %v", p, chain[i], i, q)
		}
	}
}
