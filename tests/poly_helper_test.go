package tests

import (
	"math/big"
	"math/rand/v2"
	"testing"

	"loop.example/g00409/impl"
)

// coefLimbs is how many limbs Num and Den of a coefficient may have.
const coefLimbs = 6

// plainPoly is a polynomial of the library's own fractions, which the tests hold the program against.
type plainPoly []*big.Rat

func plainCoefs(p []impl.Rat) plainPoly {
	all := make(plainPoly, len(p))
	for i, a := range p {
		all[i] = plainRat(a)
	}
	return all
}

func (p plainPoly) told() []impl.Rat {
	all := make([]impl.Rat, len(p))
	for i, a := range p {
		all[i] = fromPlainRat(a)
	}
	return all
}

func (p plainPoly) cut() plainPoly {
	for len(p) > 0 && p[len(p)-1].Sign() == 0 {
		p = p[:len(p)-1]
	}
	return p
}

func (p plainPoly) fits() bool {
	for _, a := range p.told() {
		if len(a.Num.Limbs) > coefLimbs || len(a.Den.Limbs) > coefLimbs {
			return false
		}
	}
	return len(p) <= impl.MaxCoefs
}

func plainNoughts(n int) plainPoly {
	all := make(plainPoly, n)
	for i := range all {
		all[i] = new(big.Rat)
	}
	return all
}

func (p plainPoly) plus(q plainPoly) plainPoly {
	sum := plainNoughts(max(len(p), len(q)))
	for i, a := range p {
		sum[i].Add(sum[i], a)
	}
	for i, a := range q {
		sum[i].Add(sum[i], a)
	}
	return sum.cut()
}

func (p plainPoly) times(q plainPoly) plainPoly {
	product := plainNoughts(len(p) + len(q))
	for i, a := range p {
		for j, b := range q {
			product[i+j].Add(product[i+j], new(big.Rat).Mul(a, b))
		}
	}
	return product.cut()
}

func (p plainPoly) scaled(by *big.Rat) plainPoly {
	return p.times(plainPoly{by})
}

// dividedBy is the long way by fractions, which the program does not go.
func (p plainPoly) dividedBy(q plainPoly) (plainPoly, plainPoly) {
	quotient, rest := plainNoughts(len(p)), p.cut()
	for len(rest) >= len(q) {
		at := len(rest) - len(q)
		quotient[at].Quo(rest[len(rest)-1], q[len(q)-1])
		step := append(plainNoughts(at), q.scaled(new(big.Rat).Neg(quotient[at]))...)
		rest = rest.plus(step)
	}
	return quotient.cut(), rest
}

func (p plainPoly) withLastOne() plainPoly {
	if len(p) == 0 {
		return p
	}
	return p.scaled(new(big.Rat).Inv(p[len(p)-1]))
}

func (p plainPoly) common(q plainPoly) plainPoly {
	for len(q) > 0 {
		_, rest := p.dividedBy(q)
		p, q = q, rest.withLastOne()
	}
	return p.withLastOne()
}

func (p plainPoly) slope() plainPoly {
	if len(p) == 0 {
		return p
	}
	all := plainNoughts(len(p) - 1)
	for i := range all {
		all[i].Mul(p[i+1], big.NewRat(int64(i+1), 1))
	}
	return all
}

// squareFree wants p not to be 0.
func (p plainPoly) squareFree() plainPoly {
	quotient, _ := p.dividedBy(p.common(p.slope()))
	return quotient.withLastOne()
}

func plainPower(x *big.Rat, n int) *big.Rat {
	power := big.NewRat(1, 1)
	for range n {
		power.Mul(power, x)
	}
	return power
}

// at sums up powers, which the program does not.
func (p plainPoly) at(x *big.Rat) *big.Rat {
	sum := new(big.Rat)
	for i, a := range p {
		sum.Add(sum, new(big.Rat).Mul(a, plainPower(x, i)))
	}
	return sum
}

// shifted goes by binomials, which the program does not.
func (p plainPoly) shifted(a *big.Rat) plainPoly {
	sum := plainNoughts(len(p))
	for i, coef := range p {
		for j := range i + 1 {
			part := new(big.Rat).SetInt(new(big.Int).Binomial(int64(i), int64(j)))
			part.Mul(part, coef).Mul(part, plainPower(a, i-j))
			sum[j].Add(sum[j], part)
		}
	}
	return sum.cut()
}

// wholePoly puts numbers in one list as they are, noughts at the end, too.
func wholePoly(l ...int) []impl.Rat {
	p := make([]impl.Rat, len(l))
	for i, n := range l {
		p[i] = whole(impl.BigOf(n))
	}
	return p
}

func clonePoly(p []impl.Rat) []impl.Rat {
	all := make([]impl.Rat, len(p))
	for i, a := range p {
		all[i] = cloneRat(a)
	}
	return all
}

func samePoly(p, q []impl.Rat) bool {
	if len(p) != len(q) {
		return false
	}
	for i := range p {
		if !sameRat(p[i], q[i]) {
			return false
		}
	}
	return true
}

// polyText is made of coefficients with a blank between, the lowest first.
func polyText(t *testing.T, p []impl.Rat) string {
	t.Helper()
	text := ""
	for i, a := range p {
		if i > 0 {
			text += " "
		}
		text += ratText(t, a)
	}
	return text
}

// wantPoly wants the zero answer where what should be told does not fit; it answers whether it does.
func wantPoly(t *testing.T, what string, p []impl.Rat, ok bool, want plainPoly) bool {
	t.Helper()
	if !want.fits() {
		if ok || len(p) > 0 {
			t.Fatalf("%s: %v %v, want the zero answer: %v does not fit", what, p, ok, want)
		}
		return false
	}
	if !ok || !samePoly(p, want.told()) {
		t.Fatalf("%s: %v %v, want %v", what, p, ok, want)
	}
	if !impl.GoodPoly(p) {
		t.Fatalf("%s: %v is not good", what, p)
	}
	return true
}

// longest has coefLimbs limbs: one more would be one limb more.
func longest() impl.Big {
	return positive(limbs(coefLimbs, top)...)
}

// somePoly has n coefficients of at most so many limbs, some of them 0, but not the last one.
func somePoly(r *rand.Rand, n, limbs int) []impl.Rat {
	p := make([]impl.Rat, n)
	for i := range p {
		p[i] = someRat(r, limbs)
		if i < n-1 && r.IntN(4) == 0 {
			p[i] = whole(impl.Big{})
		}
	}
	for n > 0 && len(p[n-1].Num.Limbs) == 0 {
		p[n-1] = someRat(r, limbs)
	}
	return p
}

// smallPoly has whole coefficients from -far to far, the last one not 0.
func smallPoly(r *rand.Rand, n, far int) []impl.Rat {
	l := make([]int, n)
	for i := range l {
		l[i] = r.IntN(2*far+1) - far
		if i == n-1 && l[i] == 0 {
			l[i] = 1
		}
	}
	return wholePoly(l...)
}

// smallPolys are all with at most n coefficients from -1 to 1.
func smallPolys(n int) [][]impl.Rat {
	all := [][]impl.Rat{{}}
	rows := [][]int{{}}
	for range n {
		next := [][]int{}
		for _, row := range rows {
			for _, a := range []int{-1, 0, 1} {
				longer := append(append([]int{}, row...), a)
				next = append(next, longer)
				if a != 0 {
					all = append(all, wholePoly(longer...))
				}
			}
		}
		rows = next
	}
	return all
}

// edgePolys are 0, ones with one coefficient, with noughts between, and with as many and as long coefficients as may be.
func edgePolys(t *testing.T) [][]impl.Rat {
	t.Helper()
	far, near := whole(longest()), over(positive(1), longest())
	nought := whole(impl.Big{})
	long := []impl.Rat{far, near, turnedRat(far), over(longest(), powerOf(5)), turnedRat(near), nought, over(powerOf(5), longest())}
	return [][]impl.Rat{
		nil, {}, wholePoly(1), wholePoly(-1), wholePoly(-7), {ratOf(t, -3, 2)}, {far}, {turnedRat(near)},
		wholePoly(0, 1), wholePoly(0, -2), wholePoly(1, 1), wholePoly(-1, 1), wholePoly(-1, 0, 1), wholePoly(1, 2, 1), wholePoly(0, 0, 3),
		{ratOf(t, 1, 2), ratOf(t, -2, 3)}, {nought, far}, {near, nought, turnedRat(far)},
		wholePoly(-1, 3, -3, 1), wholePoly(0, 0, 0, 0, 0, 0, 1), wholePoly(1, 1, 1, 1, 1, 1, 1), wholePoly(-1, 0, 0, 0, 0, 0, 1), long,
	}
}

// wrongPolys are no polynomials, each for one reason: a last coefficient that is 0, too many, too long ones, or such that are no good fractions.
func wrongPolys(t *testing.T) [][]impl.Rat {
	t.Helper()
	wrong := [][]impl.Rat{
		wholePoly(0), wholePoly(0, 0), wholePoly(1, 0), wholePoly(1, 2, 0, 0), wholePoly(1, 2, 3, 4, 5, 6, 0), {whole(impl.Big{Limbs: []int{}})},
		wholePoly(1, 2, 3, 4, 5, 6, 7, 8), wholePoly(0, 0, 0, 0, 0, 0, 0, 1), wholePoly(1, 2, 3, 4, 5, 6, 7, 0), wholePoly(make([]int, 30)...),
	}
	bad := append(wrongRats(), whole(powerOf(6)), whole(turned(powerOf(6))), over(positive(1), powerOf(6)), over(powerOf(6), positive(3)), over(negative(3), powerOf(6)), whole(most()))
	for _, a := range bad {
		wrong = append(wrong, []impl.Rat{a})
		for at := range 3 {
			p := wholePoly(2, 0, -3)
			p[at] = a
			wrong = append(wrong, p)
		}
	}
	return wrong
}
