package tests

import (
	"testing"

	"loop.example/g00409/impl"
)

func refineBy(times int) func(p []impl.Rat, s impl.Span) (impl.Span, bool) {
	return func(p []impl.Rat, s impl.Span) (impl.Span, bool) { return impl.RefineRoot(p, s, times) }
}

func callsOfOneRoot() []any {
	return []any{impl.IsIsolating, impl.FloorOfRoot, refineBy(0), refineBy(1), refineBy(mostHalves)}
}

// watchRoot calls all that is asked of one root.
func watchRoot(t *testing.T, p []impl.Rat, s impl.Span, q []impl.Rat, other impl.Span) {
	t.Helper()
	for _, f := range callsOfOneRoot() {
		watch(t, f, p, s)
	}
	watch(t, impl.SignAtRoot, p, s, q)
	watch(t, impl.CompareRoots, p, s, q, other)
	watch(t, impl.CompareRoots, q, other, p, s)
}

// wantNoRoot wants the zero answer of all that is asked of one root; IsIsolating may tell that there is none.
func wantNoRoot(t *testing.T, p []impl.Rat, s impl.Span) {
	t.Helper()
	fine, own := wholePoly(-1, 1), between(ratOf(t, 0, 1), ratOf(t, 3, 1))
	wantZero(t, impl.FloorOfRoot, p, s)
	for _, times := range []int{-1, 0, 1, mostHalves, mostHalves + 1} {
		wantZero(t, impl.RefineRoot, p, s, times)
	}
	wantZero(t, impl.SignAtRoot, p, s, fine)
	wantZero(t, impl.CompareRoots, p, s, fine, own)
	wantZero(t, impl.CompareRoots, fine, own, p, s)
	wantZero(t, impl.CompareRoots, p, s, p, s)
}

func TestPromise19GoodIsolated(t *testing.T) {
	for _, p := range append(edgeRoots(t), mignotte(7), mignotte(3000), mignotte(top)) {
		watch(t, impl.IsolateRoots, p)
		spans, _ := impl.IsolateRoots(p)
		for _, s := range spans {
			watchRoot(t, p, s, wholePoly(-1, 1), between(ratOf(t, 0, 1), ratOf(t, 3, 1)))
			watchRoot(t, p, s, p, s)
			watchRoot(t, p, s, wholePoly(-2, 0, 1), onePlace(ratOf(t, 0, 1)))
		}
	}
	for i, one := range manyRooted(t, someEndsOfRoots(t)) {
		if i%5 == 0 {
			watchRoot(t, one.p, one.s, wholePoly(0, -1, 1), onePlace(ratOf(t, 1, 1)))
		}
	}
}

func TestPromise19WrongPolysOfRoots(t *testing.T) {
	fine, own := wholePoly(-1, 1), between(ratOf(t, 0, 1), ratOf(t, 3, 1))
	for _, wrong := range wrongRoots(t) {
		wantZero(t, impl.IsolateRoots, wrong)
		for _, s := range []impl.Span{own, onePlace(ratOf(t, 0, 1))} {
			wantZero(t, impl.IsIsolating, wrong, s)
			wantNoRoot(t, wrong, s)
		}
		wantZero(t, impl.SignAtRoot, fine, own, wrong)
		wantZero(t, impl.SignAtRoot, fine, onePlace(ratOf(t, 1, 1)), wrong)
	}
}

func TestPromise19WrongSpansOfRoots(t *testing.T) {
	for _, p := range [][]impl.Rat{wholePoly(0, 1), wholePoly(-1, 0, 1)} {
		for _, wrong := range wrongSpans(t) {
			wantZero(t, impl.IsIsolating, p, wrong)
			wantNoRoot(t, p, wrong)
		}
	}
}

// Each span has one root, but an end with a limb too many.
func TestPromise19SpansOneLimbTooLong(t *testing.T) {
	p, far := wholePoly(0, 1), positive(limbs(placeLimbs, top)...)
	for _, long := range []impl.Rat{whole(powerOf(4)), over(positive(1), powerOf(4)), over(powerOf(4), far), over(far, powerOf(4)), over(powerOf(4), positive(3)), whole(longest())} {
		for _, s := range []impl.Span{between(ratOf(t, -1, 1), long), between(turnedRat(long), ratOf(t, 1, 1)), between(turnedRat(long), long), onePlace(long)} {
			wantZero(t, impl.IsIsolating, p, s)
			wantNoRoot(t, p, s)
		}
	}
	for _, most := range farPlaces()[:4] {
		for _, s := range []impl.Span{between(ratOf(t, -1, 1), most), between(turnedRat(most), ratOf(t, 1, 1)), between(turnedRat(most), most)} {
			if is, ok := impl.IsIsolating(p, s); !is || !ok {
				t.Errorf("IsIsolating %v: %v %v", s, is, ok)
			}
			watchRoot(t, p, s, wholePoly(-1, 1), onePlace(ratOf(t, 1, 1)))
		}
	}
}

func TestPromise19NotIsolating(t *testing.T) {
	p := madeOf(t, root(-2, 1), root(1, 2), root(1, 2), root(3, 1))
	for _, s := range []impl.Span{
		between(ratOf(t, -2, 1), ratOf(t, 0, 1)), between(ratOf(t, -2, 1), ratOf(t, 3, 1)), between(ratOf(t, -3, 1), ratOf(t, 1, 2)), between(ratOf(t, -9, 1), ratOf(t, 9, 1)), between(ratOf(t, 3, 1), ratOf(t, 9, 1)),
		between(ratOf(t, 4, 1), ratOf(t, 9, 1)), onePlace(ratOf(t, 0, 1)), onePlace(ratOf(t, 1, 1)), onePlace(ratOf(t, -9, 1)),
	} {
		if is, ok := impl.IsIsolating(p, s); is || !ok {
			t.Errorf("IsIsolating %v: %v %v", s, is, ok)
		}
		watch(t, impl.IsIsolating, p, s)
		wantNoRoot(t, p, s)
	}
	for _, none := range [][]impl.Rat{noRoot(), wholePoly(1, 0, 0, 0, 1)} {
		wantNoRoot(t, none, between(ratOf(t, -9, 1), ratOf(t, 9, 1)))
		wantNoRoot(t, none, onePlace(ratOf(t, 0, 1)))
	}
}

func TestPromise19TimesBeyond(t *testing.T) {
	for _, s := range []impl.Span{between(ratOf(t, -1, 1), ratOf(t, 1, 1)), between(ratOf(t, -1, 1), ratOf(t, 0, 1)), onePlace(ratOf(t, 0, 1))} {
		p := wholePoly(0, 3)
		for _, times := range []int{-1, mostHalves + 1, -2, -1 << 63, 1<<63 - 1, 1 << 32} {
			wantZero(t, impl.RefineRoot, p, s, times)
		}
		for _, times := range []int{0, 1, mostHalves - 1, mostHalves} {
			if told := watch(t, impl.RefineRoot, p, s, times); !told[1].Bool() {
				t.Errorf("RefineRoot %v %d: refused", s, times)
			}
		}
	}
}

// One fraction as both ends and as a coefficient, one polynomial and one span as both arguments: what is told has memory of its own.
func TestPromise19RootsSharedMemory(t *testing.T) {
	one := positive(1)
	same := over(one, one)
	p, s := []impl.Rat{turnedRat(same), same}, between(same, same)
	kept, apart := clonePoly(p), between(cloneRat(same), cloneRat(same))
	for _, f := range callsOfOneRoot() {
		wantDirectly(t, f, watch(t, f, kept, apart), p, s)
	}
	wantDirectly(t, impl.IsolateRoots, watch(t, impl.IsolateRoots, kept), p)
	wantDirectly(t, impl.SignAtRoot, watch(t, impl.SignAtRoot, kept, apart, clonePoly(p)), p, s, p)
	wantDirectly(t, impl.CompareRoots, watch(t, impl.CompareRoots, kept, apart, clonePoly(p), apart), p, s, p, s)
	if !samePoly(p, kept) || !sameSpan(s, apart) {
		t.Fatalf("%v %v were written into: %v %v", kept, apart, p, s)
	}
	middle := isolated(t, wholePoly(0, -1, 0, 1))
	middle[0].Hi.Num.Limbs[0] = 77
	if text := spanText(t, middle[1]); text != "-1 0" {
		t.Errorf("neighbours share an end: %s", text)
	}
}
