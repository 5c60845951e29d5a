package tests

import (
	"math/big"
	"math/rand/v2"
	"slices"
	"testing"

	"loop.example/g00409/impl"
)

const top = impl.LimbBase - 1

// plain tells a great number to the library's own kind of them, which the tests hold the program against.
func plain(a impl.Big) *big.Int {
	sum := new(big.Int)
	for i := len(a.Limbs) - 1; i >= 0; i-- {
		sum.Lsh(sum, 16)
		sum.Add(sum, big.NewInt(int64(a.Limbs[i])))
	}
	if a.Neg {
		sum.Neg(sum)
	}
	return sum
}

func fromPlain(n *big.Int) impl.Big {
	far := new(big.Int).Abs(n)
	var limbs []int
	for far.Sign() > 0 {
		limb := new(big.Int)
		far.QuoRem(far, big.NewInt(impl.LimbBase), limb)
		limbs = append(limbs, int(limb.Int64()))
	}
	return impl.Big{Neg: n.Sign() < 0, Limbs: limbs}
}

func sameBig(a, b impl.Big) bool {
	return a.Neg == b.Neg && slices.Equal(a.Limbs, b.Limbs)
}

func turned(a impl.Big) impl.Big {
	return impl.Big{Neg: !a.Neg && len(a.Limbs) > 0, Limbs: a.Limbs}
}

// limbs repeats one limb.
func limbs(n, limb int) []int {
	return slices.Repeat([]int{limb}, n)
}

func positive(l ...int) impl.Big { return impl.Big{Limbs: l} }
func negative(l ...int) impl.Big { return impl.Big{Neg: true, Limbs: l} }

// powerOf is LimbBase to the n.
func powerOf(n int) impl.Big {
	return impl.Big{Limbs: append(limbs(n, 0), 1)}
}

// edgeBigs are the numbers at which limbs begin, end and are carried, with both signs.
func edgeBigs() []impl.Big {
	far := []impl.Big{
		positive(1), positive(2), positive(10), positive(32767), positive(32768), positive(top - 1), positive(top),
		positive(0, 1), positive(1, 1), positive(top, 1), positive(0, top), positive(top, top), positive(0, 32768), positive(1, 32768),
		positive(0, 0, 1), positive(top, top, top), positive(top, 0, 1), positive(0, 0, 32768),
		positive(0, 0, 0, 16384), positive(1, 0, 0, 16384), positive(top, top, top, 16383),
		positive(0, 0, 0, 32768), positive(top, top, top, 32767), positive(top, top, top, top), positive(0, 0, 0, 0, 1),
		powerOf(19), powerOf(20), powerOf(39), positive(limbs(20, top)...), positive(limbs(21, top)...),
		positive(limbs(39, top)...), positive(limbs(40, top)...), positive(append(limbs(39, 0), top)...),
	}
	all := []impl.Big{{}}
	for _, a := range far {
		all = append(all, a, turned(a))
	}
	return all
}

// someBig has n limbs, many of them at the edges, where guesses and carries go wrong.
func someBig(r *rand.Rand, n int) impl.Big {
	edges := []int{0, 1, 2, 32767, 32768, 32769, top - 1, top}
	l := make([]int, n)
	for i := range l {
		l[i] = r.IntN(impl.LimbBase)
		if r.IntN(2) == 0 {
			l[i] = edges[r.IntN(len(edges))]
		}
	}
	if n > 0 && l[n-1] == 0 {
		l[n-1] = 1
	}
	return impl.Big{Neg: n > 0 && r.IntN(2) == 0, Limbs: l}
}

// fixed draws the same numbers at each run.
func fixed(seed uint64) *rand.Rand {
	return rand.New(rand.NewPCG(seed, 1))
}

func wantBig(t *testing.T, what string, a impl.Big, ok bool, want *big.Int) {
	t.Helper()
	wanted := fromPlain(want)
	if len(wanted.Limbs) > impl.MaxLimbs {
		if ok || !sameBig(a, impl.Big{}) {
			t.Fatalf("%s: %v %v, want the zero answer: it has %d limbs", what, a, ok, len(wanted.Limbs))
		}
		return
	}
	if !ok || !sameBig(a, wanted) {
		t.Fatalf("%s: %v %v, want %v", what, a, ok, wanted)
	}
	if !impl.GoodBig(a) {
		t.Fatalf("%s: %v is not good", what, a)
	}
}

func mustRead(t *testing.T, s string) impl.Big {
	t.Helper()
	a, ok := impl.ReadBig(s)
	if !ok {
		t.Fatalf("ReadBig %q: refused", s)
	}
	return a
}
