package tests

import (
	"testing"

	"loop.example/g00409/impl"
)

func callsOfRoots() []any {
	return []any{impl.RootsPoly, impl.ChainOf, impl.CountAll, impl.RootBound}
}

func callsOfRootsAndPlace() []any {
	return []any{impl.ChangesAt, impl.HasRoot}
}

func callsOfRootsAndPlaces() []any {
	return []any{impl.CountRoots, impl.BudanCount}
}

// isTold is whether f is told of good places in order: all are but BudanCount, which wants shifted polynomials within their limits.
func isTold(f any, p []impl.Rat, a, b impl.Rat) bool {
	return nameOf(f) != "BudanCount" || shiftsFit(p, a, b)
}

func someEnds(t *testing.T) []impl.Rat {
	t.Helper()
	return append(farPlaces(), ratOf(t, 0, 1), ratOf(t, 1, 1), ratOf(t, -3, 2))
}

func TestPromise19GoodRoots(t *testing.T) {
	for _, p := range edgeRoots(t) {
		for _, f := range callsOfRoots() {
			watch(t, f, p)
		}
		for _, x := range someEnds(t) {
			for _, f := range callsOfRootsAndPlace() {
				if told := watch(t, f, p, x); !told[1].Bool() {
					t.Errorf("%s %v %v: refused", nameOf(f), p, x)
				}
			}
			for _, f := range callsOfRootsAndPlaces() {
				if told := watch(t, f, p, x, cloneRat(x)); told[1].Bool() != isTold(f, p, x, x) || told[0].Int() != 0 {
					t.Errorf("%s %v %v twice: %v", nameOf(f), p, x, told)
				}
			}
		}
	}
}

// The first place above the second is refused, however near they are.
func TestPromise19PlacesInOrder(t *testing.T) {
	far := positive(limbs(placeLimbs, top)...)
	below := positive(top-1, top, top, top)
	for _, c := range [][2]impl.Rat{
		{ratOf(t, 0, 1), ratOf(t, 1, 1)}, {ratOf(t, -1, 1), ratOf(t, 0, 1)}, {ratOf(t, -1, 2), ratOf(t, -1, 3)}, {ratOf(t, 99, 70), ratOf(t, 140, 99)},
		{whole(below), whole(far)}, {over(positive(1), far), over(positive(1), below)}, {over(below, far), whole(positive(1))}, {turnedRat(whole(far)), turnedRat(whole(below))},
	} {
		lo, hi := inOrderOf(c[0], c[1])
		for _, f := range callsOfRootsAndPlaces() {
			for _, p := range [][]impl.Rat{wholePoly(0, -1, 0, 1), wholePoly(1, 1)} {
				if told := watch(t, f, p, lo, hi); told[1].Bool() != isTold(f, p, lo, hi) {
					t.Errorf("%s %v %v %v: %v", nameOf(f), p, lo, hi, told)
				}
				wantZero(t, f, p, hi, lo)
			}
		}
	}
}

func TestPromise19WrongRoots(t *testing.T) {
	for _, wrong := range wrongRoots(t) {
		for _, f := range callsOfRoots() {
			wantZero(t, f, wrong)
		}
		for _, x := range []impl.Rat{ratOf(t, 0, 1), ratOf(t, -3, 2)} {
			for _, f := range callsOfRootsAndPlace() {
				wantZero(t, f, wrong, x)
			}
			for _, f := range callsOfRootsAndPlaces() {
				wantZero(t, f, wrong, x, ratOf(t, 1, 1))
			}
		}
	}
}

func TestPromise19NoPlaces(t *testing.T) {
	low, high := turnedRat(farPlaces()[0]), farPlaces()[0]
	for _, wrong := range noPlaces() {
		for _, p := range [][]impl.Rat{wholePoly(0, 1), wholePoly(1, -2, 1), wholePoly(0, -1, 0, 0, 1)} {
			for _, f := range callsOfRootsAndPlace() {
				wantZero(t, f, p, wrong)
			}
			for _, f := range callsOfRootsAndPlaces() {
				wantZero(t, f, p, wrong, high)
				wantZero(t, f, p, low, wrong)
				wantZero(t, f, p, wrong, low)
				wantZero(t, f, p, high, wrong)
				wantZero(t, f, p, wrong, wrong)
			}
		}
		for _, f := range callsOfRootsAndPlace() {
			wantZero(t, f, wholePoly(1, 0), wrong)
		}
	}
}

// Places are refused on each side of what is as far as they may be.
func TestPromise19PlacesOneLimbTooLong(t *testing.T) {
	p := wholePoly(-1, 0, 1)
	for _, x := range []impl.Rat{whole(powerOf(4)), over(positive(1), powerOf(4)), over(powerOf(4), positive(3)), over(positive(3), powerOf(4))} {
		for _, f := range callsOfRootsAndPlaces() {
			wantZero(t, f, p, ratOf(t, 0, 1), x)
			wantZero(t, f, p, turnedRat(x), ratOf(t, 0, 1))
			wantZero(t, f, p, turnedRat(x), x)
		}
		for _, f := range callsOfRootsAndPlace() {
			wantZero(t, f, p, x)
			wantZero(t, f, p, turnedRat(x))
		}
	}
}

// One fraction as all coefficients and as the places, one number as Num and Den: none is worked on in its place, and what is told has memory of its own.
func TestPromise19RootsInOneMemory(t *testing.T) {
	one, same := positive(1), ratOf(t, -5, 3)
	lists := append(edgeRoots(t), []impl.Rat{same, same, same}, []impl.Rat{over(one, one), over(one, one), over(one, one), over(one, one)})
	for _, p := range lists {
		kept := clonePoly(p)
		for _, f := range callsOfRoots() {
			wantDirectly(t, f, watch(t, f, kept), p)
		}
		for _, f := range callsOfRootsAndPlace() {
			wantDirectly(t, f, watch(t, f, kept, cloneRat(p[0])), p, p[0])
		}
		for _, f := range callsOfRootsAndPlaces() {
			wantDirectly(t, f, watch(t, f, kept, cloneRat(p[0]), cloneRat(p[0])), p, p[0], p[0])
		}
		if !samePoly(p, kept) {
			t.Fatalf("%v was written into: %v", kept, p)
		}
	}
}
