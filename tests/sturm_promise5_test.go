package tests

import (
	"slices"
	"testing"

	"loop.example/g00409/impl"
)

func countRoots(t *testing.T, p []impl.Rat, a, b impl.Rat) int {
	t.Helper()
	n, ok := impl.CountRoots(p, a, b)
	if !ok {
		t.Fatalf("CountRoots %v %v %v: refused", p, a, b)
	}
	return n
}

func rising(places []impl.Rat) []impl.Rat {
	all := slices.Clone(places)
	slices.SortFunc(all, func(a, b impl.Rat) int { return plainRat(a).Cmp(plainRat(b)) })
	return all
}

// checkSums: promise 5, roots from the first place to the second, and from there to the third, are those from the first to the third (Sturm).
func checkSums(t *testing.T, p []impl.Rat, places []impl.Rat) {
	t.Helper()
	places = rising(places)
	a, b, c := places[0], places[1], places[2]
	first, second, both := countRoots(t, p, a, b), countRoots(t, p, b, c), countRoots(t, p, a, c)
	if first < 0 || second < 0 || first+second != both {
		t.Fatalf("CountRoots %v: %d from %v to %v, %d to %v, but together %d", p, first, a, b, second, c, both)
	}
	from, _ := impl.ChangesAt(p, a)
	to, _ := impl.ChangesAt(p, c)
	if from-to != both {
		t.Fatalf("ChangesAt %v: %d at %v, %d at %v, but there are %d roots", p, from, a, to, c, both)
	}
	if all, ok := impl.CountAll(p); !ok || both > all || all >= len(p) {
		t.Fatalf("CountAll %v: %d %v, but there are %d from %v to %v", p, all, ok, both, a, c)
	}
}

// checkBudan: promise 5, by signs of shifted coefficients there are as many, or more by an even number, each root counted as often as it is one (Budan). The promise holds where these are told.
func checkBudan(t *testing.T, p []impl.Rat, a, b impl.Rat) int {
	t.Helper()
	if !wantBudan(t, p, a, b) {
		return 0
	}
	n, ok := impl.BudanCount(p, a, b)
	more := n - plainCoefs(p).timesUpTo(plainRat(a), plainRat(b))
	if !ok || more < 0 || more%2 != 0 {
		t.Fatalf("BudanCount %v %v %v: %d %v, which is %d more than there are", p, a, b, n, ok, more)
	}
	if once := countRoots(t, p, a, b); once > n {
		t.Fatalf("BudanCount %v %v %v: %d, but there are %d unlike roots", p, a, b, n, once)
	}
	return more
}

func checkPromise5(t *testing.T, p []impl.Rat, places []impl.Rat) int {
	t.Helper()
	checkSums(t, p, places)
	places = rising(places)
	return checkBudan(t, p, places[0], places[1]) + checkBudan(t, p, places[0], places[2]) + checkBudan(t, p, places[1], places[2])
}

func TestPromise5SmallPolys(t *testing.T) {
	lists := [][]impl.Rat{
		{ratOf(t, -2, 1), ratOf(t, -1, 1), ratOf(t, 2, 1)}, {ratOf(t, -1, 1), ratOf(t, 0, 1), ratOf(t, 1, 1)},
		{ratOf(t, -1, 2), ratOf(t, 1, 2), ratOf(t, 1, 2)}, {ratOf(t, -3, 1), ratOf(t, 1, 1), ratOf(t, 3, 1)},
	}
	for _, p := range smallPolys(impl.MaxRootsCoefs) {
		for _, places := range lists {
			if len(p) >= 2 {
				checkPromise5(t, p, places)
			}
		}
	}
}

func TestPromise5EdgeRoots(t *testing.T) {
	far := farPlaces()
	lists := [][]impl.Rat{
		{far[0], far[4], ratOf(t, 0, 1)}, {far[1], far[5], ratOf(t, 0, 1)}, {far[2], far[6], far[3]}, {far[3], far[7], ratOf(t, 1, 1)},
		{far[0], far[0], far[4]}, {ratOf(t, 0, 1), ratOf(t, 0, 1), ratOf(t, 0, 1)}, {ratOf(t, 1, 2), ratOf(t, 1, 1), ratOf(t, 2, 1)},
	}
	for _, p := range edgeRoots(t) {
		for _, places := range lists {
			checkPromise5(t, p, places)
		}
	}
}

func TestPromise5Some(t *testing.T) {
	r := fixed(53)
	more := 0
	for range 200 {
		places := []impl.Rat{somePlace(t, r), somePlace(t, r), somePlace(t, r)}
		more += checkPromise5(t, someRoots(r), places)
		more += checkPromise5(t, someMade(t, r), places)
	}
	if more == 0 {
		t.Error("by signs there were never more")
	}
}

// Of polynomials made of their roots all of these are found, each at its own place, and none between.
func TestPromise5EachRootAtItsPlace(t *testing.T) {
	roots := []struct{ num, den int }{{-7, 2}, {-1, 1}, {0, 1}, {2, 3}, {5, 1}}
	for i := range roots {
		for j := range i + 1 {
			for k := range j + 1 {
				p := madeOf(t, root(roots[i].num, roots[i].den), root(roots[j].num, roots[j].den), root(roots[k].num, roots[k].den))
				last := ratOf(t, -4, 1)
				for at, own := range roots {
					here := ratOf(t, own.num, own.den)
					want := 0
					if at == i || at == j || at == k {
						want = 1
					}
					n, ok := impl.CountRoots(p, last, here)
					wantCount(t, "CountRoots", n, ok, want)
					if has, ok := impl.HasRoot(p, here); has != (want == 1) || !ok {
						t.Fatalf("HasRoot %v %v: %v %v", p, here, has, ok)
					}
					last = here
				}
			}
		}
	}
}

// Beyond its bound on both sides a polynomial has no root.
func TestPromise5NoneBeyondTheBound(t *testing.T) {
	r := fixed(54)
	for range 200 {
		p := someRoots(r)
		bound, ok := impl.RootBound(p)
		if !ok {
			t.Fatalf("RootBound %v: refused", p)
		}
		far := whole(positive(limbs(placeLimbs, top)...))
		n, ok := impl.CountRoots(p, bound, far)
		wantCount(t, "CountRoots above the bound", n, ok, 0)
		n, ok = impl.CountRoots(p, turnedRat(far), turnedRat(bound))
		wantCount(t, "CountRoots below the bound", n, ok, 0)
		all, ok := impl.CountAll(p)
		wantCount(t, "CountAll", all, ok, countRoots(t, p, turnedRat(far), far))
	}
}
