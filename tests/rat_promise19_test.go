package tests

import (
	"math"
	"testing"

	"loop.example/g00409/impl"
)

func callsOfOneRat() []any {
	return []any{impl.GoodRat, impl.FloorRat, impl.TermsOf, impl.RatText}
}

func callsOfTwoRats() []any {
	return []any{impl.CompareRat, impl.AddRat, impl.SubRat, impl.MulRat, impl.DivRat, impl.SimplestIn}
}

func TestPromise19GoodFractions(t *testing.T) {
	for _, a := range edgeRats() {
		for _, f := range callsOfOneRat() {
			watch(t, f, a)
		}
		for _, b := range edgeRats() {
			for _, f := range callsOfTwoRats() {
				watch(t, f, a, b)
			}
		}
	}
}

func TestPromise19WrongFractions(t *testing.T) {
	fine := []impl.Rat{ratOf(t, 0, 1), ratOf(t, -3, 2), over(positive(1), most()), whole(most())}
	for _, wrong := range wrongRats() {
		for _, f := range callsOfOneRat() {
			wantZero(t, f, wrong)
		}
		for _, f := range callsOfTwoRats() {
			for _, other := range fine {
				wantZero(t, f, wrong, other)
				wantZero(t, f, other, wrong)
			}
			wantZero(t, f, wrong, wrong)
		}
	}
}

func TestPromise19FractionsByNought(t *testing.T) {
	for _, a := range edgeRats() {
		wantZero(t, impl.DivRat, a, whole(impl.Big{}))
		wantZero(t, impl.DivRat, a, whole(impl.Big{Limbs: []int{}}))
	}
	for _, num := range []int{0, 1, -1, 1 << 62, -1 << 62, math.MaxInt, math.MinInt} {
		wantZero(t, impl.RatOf, num, 0)
	}
}

func TestPromise19FractionsOfInts(t *testing.T) {
	ints := []int{0, 1, -1, 2, 65536, 1 << 62, -1 << 62}
	for _, num := range ints {
		for _, den := range ints {
			watch(t, impl.RatOf, num, den)
		}
	}
}

func TestPromise19BeyondTheInts(t *testing.T) {
	for _, far := range []int{1<<62 + 1, -1<<62 - 1, math.MaxInt, math.MinInt} {
		for _, other := range []int{1, -1, 1 << 62, far} {
			wantZero(t, impl.RatOf, far, other)
			wantZero(t, impl.RatOf, other, far)
		}
		wantZero(t, impl.RatOf, 0, far)
	}
}

func TestPromise19NothingBetween(t *testing.T) {
	all := append(edgeRats(), smallRats(t, 4)...)
	for _, a := range all {
		for _, b := range all {
			if plainRat(a).Cmp(plainRat(b)) >= 0 {
				wantZero(t, impl.SimplestIn, a, b)
			}
		}
	}
}

func TestPromise19Terms(t *testing.T) {
	for _, l := range [][]impl.Big{bigsOf(0), bigsOf(-5), bigsOf(-5, 1), bigsOf(0, 2, 3), {most()}, {turned(most()), most()}, bigsOf(3, 1<<62, 7)} {
		watch(t, impl.FromTerms, l)
	}
	wantZero(t, impl.FromTerms, []impl.Big(nil))
	wantZero(t, impl.FromTerms, []impl.Big{})
	for _, l := range [][]int{{1, 0}, {1, 0, 2}, {1, 2, 0}, {0, 0}, {1, -1}, {1, 2, -3}, {1, -2, 3}, {-1, -1}} {
		wantZero(t, impl.FromTerms, bigsOf(l...))
	}
	for _, wrong := range wrongBigs() {
		for at := range 3 {
			l := bigsOf(4, 5, 6)
			l[at] = wrong
			wantZero(t, impl.FromTerms, l)
		}
		wantZero(t, impl.FromTerms, []impl.Big{wrong})
	}
}

// One fraction as both arguments, and one number as Num and Den, or as all terms: none may be worked on in its place.
func TestPromise19OneMemoryTwice(t *testing.T) {
	for _, a := range edgeRats() {
		kept := cloneRat(a)
		for _, f := range callsOfTwoRats() {
			apart := watch(t, f, kept, a)
			if got := watch(t, f, a, a); !sameTold(got, apart) || !sameRat(a, kept) {
				t.Fatalf("%s %v with itself: %v, want %v", nameOf(f), a, got, apart)
			}
		}
	}
	one := positive(1)
	for _, f := range callsOfOneRat() {
		watch(t, f, over(one, one))
	}
	if a, ok := impl.FromTerms([]impl.Big{one, one, one}); !ok || ratText(t, a) != "3/2" || !sameBig(one, positive(1)) {
		t.Error("one number as three terms:", a, ok)
	}
}
