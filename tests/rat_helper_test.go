package tests

import (
	"math/big"
	"math/rand/v2"
	"slices"
	"testing"

	"loop.example/g00409/impl"
)

// plainRat tells a fraction to the library's own kind of them; Den must not be 0.
func plainRat(a impl.Rat) *big.Rat {
	return new(big.Rat).SetFrac(plain(a.Num), plain(a.Den))
}

func fromPlainRat(r *big.Rat) impl.Rat {
	return impl.Rat{Num: fromPlain(r.Num()), Den: fromPlain(r.Denom())}
}

func sameRat(a, b impl.Rat) bool {
	return sameBig(a.Num, b.Num) && sameBig(a.Den, b.Den)
}

func ratOf(t *testing.T, num, den int) impl.Rat {
	t.Helper()
	a, ok := impl.RatOf(num, den)
	if !ok {
		t.Fatalf("RatOf %d %d: refused", num, den)
	}
	return a
}

// over puts two numbers in one fraction as they are, good or not.
func over(num, den impl.Big) impl.Rat {
	return impl.Rat{Num: num, Den: den}
}

func whole(a impl.Big) impl.Rat {
	return over(a, positive(1))
}

// most is the greatest number, one limb more would be too many.
func most() impl.Big {
	return positive(limbs(impl.MaxLimbs, top)...)
}

func turnedRat(a impl.Rat) impl.Rat {
	return over(turned(a.Num), a.Den)
}

func cloneRat(a impl.Rat) impl.Rat {
	clone := over(positive(slices.Clone(a.Num.Limbs)...), positive(slices.Clone(a.Den.Limbs)...))
	clone.Num.Neg = a.Num.Neg
	return clone
}

// edgeRats are 0, whole numbers, and fractions that meet the limits, with both signs.
func edgeRats() []impl.Rat {
	far := []impl.Rat{
		whole(positive(1)), whole(positive(2)), whole(positive(top)), whole(powerOf(1)), whole(powerOf(39)), whole(most()),
		over(positive(1), positive(2)), over(positive(1), positive(3)), over(positive(2), positive(3)), over(positive(3), positive(2)),
		over(positive(22), positive(7)), over(positive(1), positive(top)), over(positive(1), powerOf(1)), over(positive(top), powerOf(1)),
		over(powerOf(1), positive(top)), over(positive(1), powerOf(20)), over(powerOf(20), positive(3)),
		over(positive(2), positive(1, 1)), over(positive(1, 1), positive(1, 0, 1)),
		over(positive(1), powerOf(39)), over(positive(1), most()), over(most(), positive(2)), over(most(), powerOf(39)), over(powerOf(39), most()),
	}
	all := []impl.Rat{whole(impl.Big{})}
	for _, a := range far {
		all = append(all, a, turnedRat(a))
	}
	return all
}

// wrongRats are no fractions, each for one reason.
func wrongRats() []impl.Rat {
	two, six, one := positive(2), positive(6), positive(1)
	wrong := []impl.Rat{
		{}, over(one, impl.Big{}), over(negative(1), impl.Big{}), over(one, impl.Big{Limbs: []int{}}),
		over(one, negative(1)), over(one, negative(2)), over(impl.Big{}, negative(1)), over(negative(1), negative(2)),
		over(two, two), over(two, six), over(six, two), over(turned(six), positive(4)), over(most(), most()), over(powerOf(39), powerOf(38)),
		over(positive(2, 2), positive(3, 3)), over(positive(1, 1), positive(1, 1)),
		over(impl.Big{}, two), over(impl.Big{}, powerOf(39)), over(impl.Big{Limbs: []int{}}, two),
	}
	for _, a := range wrongBigs() {
		wrong = append(wrong, over(a, one), over(one, a), over(a, a))
	}
	return wrong
}

// someRat has a Num and a Den of at most n limbs.
func someRat(r *rand.Rand, n int) impl.Rat {
	num, den := someBig(r, r.IntN(n+1)), someBig(r, 1+r.IntN(n))
	return fromPlainRat(new(big.Rat).SetFrac(plain(num), plain(den)))
}

// smallRats are all fractions with a Num up to n on both sides, and a Den up to n.
func smallRats(t *testing.T, n int) []impl.Rat {
	t.Helper()
	all := []impl.Rat{}
	for den := 1; den <= n; den++ {
		for num := -n; num <= n; num++ {
			if g := new(big.Int).GCD(nil, nil, big.NewInt(int64(max(num, -num))), big.NewInt(int64(den))); g.Int64() == 1 {
				all = append(all, ratOf(t, num, den))
			}
		}
	}
	return all
}

func wantRat(t *testing.T, what string, a impl.Rat, ok bool, want *big.Rat) {
	t.Helper()
	wanted := fromPlainRat(want)
	if max(len(wanted.Num.Limbs), len(wanted.Den.Limbs)) > impl.MaxLimbs {
		if ok || !sameRat(a, impl.Rat{}) {
			t.Fatalf("%s: %v %v, want the zero answer: it has %d and %d limbs", what, a, ok, len(wanted.Num.Limbs), len(wanted.Den.Limbs))
		}
		return
	}
	if !ok || !sameRat(a, wanted) {
		t.Fatalf("%s: %v %v, want %v", what, a, ok, wanted)
	}
	if !impl.GoodRat(a) {
		t.Fatalf("%s: %v is not good", what, a)
	}
}

func ratText(t *testing.T, a impl.Rat) string {
	t.Helper()
	s, ok := impl.RatText(a)
	if !ok {
		t.Fatalf("RatText %v: refused", a)
	}
	return s
}
