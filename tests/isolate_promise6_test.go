package tests

import (
	"math/big"
	"testing"

	"loop.example/g00409/impl"
)

// checkOwnSpans: promise 6, each root has a span of its own, from the least one on (Vincent).
func checkOwnSpans(t *testing.T, p []impl.Rat) []impl.Span {
	t.Helper()
	spans := isolated(t, p)
	all, ok := impl.CountAll(p)
	if !ok || len(spans) != all {
		t.Fatalf("IsolateRoots %v: %d spans, but there are %d roots", p, len(spans), all)
	}
	bound, _ := impl.RootBound(p)
	last := new(big.Rat).Neg(plainRat(bound))
	for i, s := range spans {
		if is, ok := impl.IsIsolating(p, s); !is || !ok {
			t.Fatalf("IsolateRoots %v: %v at %d is not isolating", p, s, i)
		}
		if plainRat(s.Lo).Cmp(last) < 0 || plainRat(s.Hi).Cmp(plainRat(s.Lo)) <= 0 {
			t.Fatalf("IsolateRoots %v: %v does not rise at %d", p, spans, i)
		}
		last = plainRat(s.Hi)
		for j, other := range spans {
			n, ok := impl.CompareRoots(p, s, p, other)
			wantCount(t, "CompareRoots of one polynomial", n, ok, max(-1, min(1, i-j)))
		}
	}
	if last.Cmp(plainRat(bound)) > 0 {
		t.Fatalf("IsolateRoots %v: %v goes beyond %v", p, spans, bound)
	}
	return spans
}

// checkKept: promise 6, halves keep the root: it is the same one, in a span as many times narrower, within the one ahead.
func checkKept(t *testing.T, p []impl.Rat, s impl.Span, times int) {
	t.Helper()
	near, ok := impl.RefineRoot(p, s, times)
	if !ok {
		return
	}
	if is, ok := impl.IsIsolating(p, near); !is || !ok {
		t.Fatalf("RefineRoot %v %v %d: %v is not isolating", p, s, times, near)
	}
	n, ok := impl.CompareRoots(p, s, p, near)
	wantCount(t, "CompareRoots of a root and itself, nearer", n, ok, 0)
	if plainRat(near.Lo).Cmp(plainRat(s.Lo)) < 0 || plainRat(near.Hi).Cmp(plainRat(s.Hi)) > 0 {
		t.Fatalf("RefineRoot %v %v %d: %v is not within", p, s, times, near)
	}
	was, is := new(big.Rat).Sub(plainRat(s.Hi), plainRat(s.Lo)), new(big.Rat).Sub(plainRat(near.Hi), plainRat(near.Lo))
	if was.Mul(was, plainStep(times)).Cmp(is) != 0 {
		t.Fatalf("RefineRoot %v %v %d: %v is %v wide, want %v", p, s, times, near, is, was)
	}
}

// checkSteps: so many halves, and then so many more, are as many as both together.
func checkSteps(t *testing.T, p []impl.Rat, s impl.Span, first, second int) {
	t.Helper()
	both, bothTold := impl.RefineRoot(p, s, first+second)
	half, told := impl.RefineRoot(p, s, first)
	if told {
		half, told = impl.RefineRoot(p, half, second)
	}
	if told != bothTold || !sameSpan(half, both) {
		t.Fatalf("RefineRoot %v %v: %v %v by %d and %d halves, %v %v by all", p, s, half, told, first, second, both, bothTold)
	}
}

func checkPromise6(t *testing.T, p []impl.Rat) {
	t.Helper()
	for i, s := range checkOwnSpans(t, p) {
		for _, times := range []int{0, 1, 5 + i, mostHalves} {
			checkKept(t, p, s, times)
		}
		checkSteps(t, p, s, 3+i, 4)
		// What is known of the root of a nearer span is known of it in the wider one.
		near := refined(t, p, s, 9)
		floor, ok := impl.FloorOfRoot(p, s)
		same, sameTold := impl.FloorOfRoot(p, near)
		if !ok || !sameTold || !sameBig(floor, same) {
			t.Fatalf("FloorOfRoot %v: %v %v in %v, %v %v in %v", p, floor, ok, s, same, sameTold, near)
		}
		n, ok := impl.SignAtRoot(p, s, p)
		wantCount(t, "SignAtRoot of itself", n, ok, 0)
	}
}

func TestPromise6SmallPolys(t *testing.T) {
	for _, p := range smallPolys(impl.MaxRootsCoefs) {
		if len(p) >= 2 {
			checkPromise6(t, p)
		}
	}
}

func TestPromise6EdgeRoots(t *testing.T) {
	for _, p := range append(edgeRoots(t), mignotte(30), mignotte(1000)) {
		checkPromise6(t, p)
	}
}

func TestPromise6Some(t *testing.T) {
	r := fixed(65)
	for range 100 {
		checkPromise6(t, someRoots(r))
		checkPromise6(t, someMade(t, r))
	}
}

// Halves keep a root also in spans that are told otherwise than by IsolateRoots: with a root at an end, or of one place.
func TestPromise6KeptInOtherSpans(t *testing.T) {
	for i, one := range manyRooted(t, someEndsOfRoots(t)) {
		checkKept(t, one.p, one.s, 1+i%7)
	}
}

// Of polynomials made of their roots each is in a span of its own, and is found there.
func TestPromise6EachRootInItsSpan(t *testing.T) {
	roots := []struct{ num, den int }{{-7, 2}, {-1, 1}, {0, 1}, {2, 3}, {3, 4}, {5, 1}}
	for i := range roots {
		for j := range i {
			for k := range j {
				p := madeOf(t, root(roots[k].num, roots[k].den), root(roots[j].num, roots[j].den), root(roots[i].num, roots[i].den))
				spans := isolated(t, p)
				for at, own := range []int{k, j, i} {
					x := ratOf(t, roots[own].num, roots[own].den)
					if in, ok := impl.InSpan(spans[at], x); !in || !ok || len(spans) != 3 {
						t.Fatalf("IsolateRoots %v: %v, but %v is a root", p, spans, x)
					}
					linear := root(roots[own].num, roots[own].den)
					n, ok := impl.CompareRoots(p, spans[at], linear, onePlace(x))
					wantCount(t, "CompareRoots of the root", n, ok, 0)
					n, ok = impl.SignAtRoot(p, spans[at], linear)
					wantCount(t, "SignAtRoot of what has the root", n, ok, 0)
					for _, other := range roots {
						n, ok = impl.SignAtRoot(p, spans[at], root(other.num, other.den))
						wantCount(t, "SignAtRoot of another one", n, ok, plainRat(x).Cmp(big.NewRat(int64(other.num), int64(other.den))))
					}
				}
			}
		}
	}
}
