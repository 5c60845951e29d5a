package tests

import (
	"slices"
	"testing"

	"loop.example/g00409/impl"
)

// wrongBigs are no numbers, each for one reason.
func wrongBigs() []impl.Big {
	return []impl.Big{
		{Neg: true},
		{Neg: true, Limbs: []int{}},
		positive(0), negative(0), positive(5, 0), positive(0, 0), positive(limbs(impl.MaxLimbs, 0)...),
		positive(-1), positive(-1, 1), positive(1, -1), negative(-1),
		positive(impl.LimbBase), positive(impl.LimbBase, 1), positive(1, impl.LimbBase), positive(1, impl.LimbBase, 1),
		positive(-1 << 63), positive(1<<63 - 1), positive(1, 1<<63-1, 1),
		powerOf(impl.MaxLimbs), positive(limbs(impl.MaxLimbs+1, 1)...), negative(limbs(impl.MaxLimbs+1, top)...), positive(limbs(5000, 1)...),
	}
}

func callsOfOneBig() []any {
	return []any{impl.GoodBig, impl.IntOf, impl.BigText}
}

func callsOfTwoBigs() []any {
	return []any{impl.CompareBig, impl.AddBig, impl.SubBig, impl.MulBig, impl.HalvesMul, impl.DivBig, impl.GcdBig}
}

func TestPromise19GoodNumbers(t *testing.T) {
	for _, a := range edgeBigs() {
		for _, f := range callsOfOneBig() {
			watch(t, f, a)
		}
		for _, b := range edgeBigs() {
			for _, f := range callsOfTwoBigs() {
				watch(t, f, a, b)
			}
		}
	}
}

func TestPromise19WrongNumbers(t *testing.T) {
	fine := []impl.Big{{}, positive(7), negative(1, 2, 3), positive(limbs(impl.MaxLimbs, top)...)}
	for _, wrong := range wrongBigs() {
		for _, f := range callsOfOneBig() {
			wantZero(t, f, wrong)
		}
		for _, f := range callsOfTwoBigs() {
			for _, other := range slices.Concat(fine, wrongBigs()) {
				wantZero(t, f, wrong, other)
				wantZero(t, f, other, wrong)
			}
		}
	}
}

func TestPromise19DivisionByNought(t *testing.T) {
	for _, a := range edgeBigs() {
		wantZero(t, impl.DivBig, a, impl.Big{})
		wantZero(t, impl.DivBig, a, impl.Big{Limbs: []int{}})
	}
}

// One number as both arguments: neither may be worked on in its place.
func TestPromise19OneNumberTwice(t *testing.T) {
	for _, f := range callsOfTwoBigs() {
		for _, a := range edgeBigs() {
			apart := watch(t, f, a, impl.Big{Neg: a.Neg, Limbs: slices.Clone(a.Limbs)})
			kept := slices.Clone(a.Limbs)
			if got := watch(t, f, a, a); !sameTold(got, apart) || !slices.Equal(a.Limbs, kept) {
				t.Fatalf("%s %v with itself: %v, want %v", nameOf(f), a, got, apart)
			}
		}
	}
}

// Texts and ints are values, but what is read of them is new at each call.
func TestPromise19ReadAnew(t *testing.T) {
	const text = "-340282366920938463463374607431768211455"
	for _, read := range []func() impl.Big{
		func() impl.Big { return mustRead(t, text) },
		func() impl.Big { return impl.BigOf(-1 << 62) },
	} {
		first := read()
		kept := slices.Clone(first.Limbs)
		for i := range first.Limbs {
			first.Limbs[i] = -7
		}
		if again := read(); !again.Neg || !slices.Equal(again.Limbs, kept) {
			t.Errorf("read again: %v, want %v", again, kept)
		}
	}
}
