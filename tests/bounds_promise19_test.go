package tests

import (
	"testing"

	"loop.example/g00409/impl"
)

func callsOfOneSpan() []any {
	return []any{impl.GoodSpan, impl.InvertSpan, impl.WidthOf, impl.SquareSpan}
}

func callsOfTwoSpans() []any {
	return []any{impl.AddSpan, impl.SubSpan, impl.MulSpan, impl.JoinSpan}
}

// wrongSpans are no spans, each for one reason: Lo above Hi, or an end that is no good fraction.
func wrongSpans(t *testing.T) []impl.Span {
	t.Helper()
	fine := ratOf(t, -3, 2)
	wrong := []impl.Span{
		{}, between(ratOf(t, 1, 1), ratOf(t, 0, 1)), between(ratOf(t, 0, 1), ratOf(t, -1, 1)), between(ratOf(t, 1, 2), ratOf(t, 1, 3)), between(ratOf(t, -1, 3), ratOf(t, -1, 2)),
		between(ratOf(t, 2, 1), ratOf(t, -2, 1)), between(whole(most()), whole(turned(most()))), between(over(positive(1), powerOf(39)), over(positive(1), most())),
	}
	for _, a := range wrongRats() {
		wrong = append(wrong, between(a, fine), between(fine, a), between(a, a))
	}
	return wrong
}

func TestPromise19GoodSpans(t *testing.T) {
	spans := append(spansOf(fewEnds(t)), spansOf(smallRats(t, 2))...)
	for _, a := range spans {
		for _, f := range callsOfOneSpan() {
			watch(t, f, a)
		}
		for _, b := range spans {
			for _, f := range callsOfTwoSpans() {
				watch(t, f, a, b)
			}
		}
		for _, x := range fewEnds(t) {
			watch(t, impl.InSpan, a, x)
		}
		for _, bits := range []int{-1, 0, 1, 17, 64, 65} {
			watch(t, impl.RoundOut, a, bits)
		}
	}
}

func TestPromise19SpansOfFractions(t *testing.T) {
	for _, a := range append(edgeRats(), smallRats(t, 4)...) {
		watch(t, impl.PointSpan, a)
		for _, bits := range []int{-1, 0, 1, 17, 64, 65} {
			watch(t, impl.RootSpan, a, bits)
		}
	}
}

func TestPromise19WrongSpans(t *testing.T) {
	fine := []impl.Span{between(ratOf(t, 0, 1), ratOf(t, 0, 1)), between(ratOf(t, 1, 2), ratOf(t, 3, 1)), between(whole(turned(most())), over(positive(1), most()))}
	for _, wrong := range wrongSpans(t) {
		for _, f := range callsOfOneSpan() {
			wantZero(t, f, wrong)
		}
		for _, bits := range []int{-1, 0, 1, 64, 65} {
			wantZero(t, impl.RoundOut, wrong, bits)
		}
		wantZero(t, impl.InSpan, wrong, ratOf(t, 1, 2))
		wantZero(t, impl.InSpan, wrong, ratOf(t, -3, 2))
		for _, f := range callsOfTwoSpans() {
			for _, other := range fine {
				wantZero(t, f, wrong, other)
				wantZero(t, f, other, wrong)
			}
			wantZero(t, f, wrong, wrong)
		}
	}
}

func TestPromise19WrongFractionsInSpans(t *testing.T) {
	fine := between(whole(turned(most())), whole(most()))
	for _, wrong := range wrongRats() {
		wantZero(t, impl.PointSpan, wrong)
		wantZero(t, impl.InSpan, fine, wrong)
		wantZero(t, impl.InSpan, between(ratOf(t, 1, 3), ratOf(t, 2, 1)), wrong)
		for _, bits := range []int{-1, 0, 1, 64, 65} {
			wantZero(t, impl.RootSpan, wrong, bits)
		}
	}
}

func TestPromise19InverseOfNought(t *testing.T) {
	nought := ratOf(t, 0, 1)
	for _, a := range edgeRats() {
		wantZero(t, impl.InvertSpan, inOrder(a, nought))
		wantZero(t, impl.InvertSpan, inOrder(a, turnedRat(a)))
	}
	wantZero(t, impl.InvertSpan, between(ratOf(t, -1, 2), whole(impl.Big{Limbs: []int{}})))
	wantZero(t, impl.InvertSpan, between(whole(impl.Big{Limbs: []int{}}), ratOf(t, 1, 2)))
}

// One fraction as both ends, and one span as both arguments: none may be worked on in its place, and what is told has ends of its own.
func TestPromise19OneSpanTwice(t *testing.T) {
	for _, a := range edgeRats() {
		kept := cloneRat(a)
		one, apart := between(a, a), between(kept, cloneRat(a))
		for _, f := range callsOfOneSpan() {
			wantDirectly(t, f, watch(t, f, apart), one)
		}
		for _, f := range callsOfTwoSpans() {
			wantDirectly(t, f, watch(t, f, apart, between(cloneRat(a), cloneRat(a))), one, one)
		}
		wantDirectly(t, impl.InSpan, watch(t, impl.InSpan, apart, cloneRat(a)), one, a)
		wantDirectly(t, impl.RoundOut, watch(t, impl.RoundOut, apart, 5), one, 5)
		wantDirectly(t, impl.PointSpan, watch(t, impl.PointSpan, kept), a)
		if !sameRat(a, kept) {
			t.Fatalf("%v was written into: %v", kept, a)
		}
	}
}
