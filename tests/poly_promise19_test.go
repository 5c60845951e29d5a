package tests

import (
	"testing"

	"loop.example/g00409/impl"
)

func callsOfOnePoly() []any {
	return []any{impl.GoodPoly, impl.DerivePoly, impl.SquareFree, impl.SignsIn}
}

func callsOfTwoPolys() []any {
	return []any{impl.AddPoly, impl.MulPoly, impl.DivPoly, impl.GcdPoly}
}

func callsOfPolyAndPlace() []any {
	return []any{impl.EvalPoly, impl.ShiftPoly}
}

func finePlaces(t *testing.T) []impl.Rat {
	t.Helper()
	return []impl.Rat{ratOf(t, 0, 1), ratOf(t, 1, 1), ratOf(t, -3, 2), whole(longest()), over(negative(1), longest())}
}

// wrongPlaces are no good fractions, or have a limb too many.
func wrongPlaces() []impl.Rat {
	return append(wrongRats(), whole(powerOf(6)), whole(turned(powerOf(6))), over(positive(1), powerOf(6)), over(powerOf(6), longest()), whole(most()), over(negative(1), most()))
}

func TestPromise19GoodPolys(t *testing.T) {
	for _, p := range append(edgePolys(t), smallPolys(3)...) {
		for _, f := range callsOfOnePoly() {
			watch(t, f, p)
		}
		for _, x := range finePlaces(t) {
			for _, f := range callsOfPolyAndPlace() {
				watch(t, f, p, x)
			}
		}
	}
}

func TestPromise19TwoGoodPolys(t *testing.T) {
	for _, all := range [][][]impl.Rat{edgePolys(t), smallPolys(3)} {
		for _, p := range all {
			for _, q := range all {
				for _, f := range callsOfTwoPolys() {
					watch(t, f, p, q)
				}
			}
		}
	}
}

func TestPromise19WrongPolys(t *testing.T) {
	fine := [][]impl.Rat{nil, wholePoly(3), wholePoly(1, -2, 1)}
	for _, wrong := range wrongPolys(t) {
		for _, f := range callsOfOnePoly() {
			wantZero(t, f, wrong)
		}
		for _, f := range callsOfPolyAndPlace() {
			wantZero(t, f, wrong, ratOf(t, 0, 1))
			wantZero(t, f, wrong, ratOf(t, -3, 2))
		}
		for _, f := range callsOfTwoPolys() {
			for _, other := range fine {
				wantZero(t, f, wrong, other)
				wantZero(t, f, other, wrong)
			}
			wantZero(t, f, wrong, wrong)
		}
	}
}

func TestPromise19WrongPlaces(t *testing.T) {
	for _, wrong := range wrongPlaces() {
		for _, f := range callsOfPolyAndPlace() {
			for _, p := range [][]impl.Rat{nil, {}, wholePoly(3), wholePoly(0, 1), wholePoly(1, -2, 1)} {
				wantZero(t, f, p, wrong)
			}
			wantZero(t, f, wholePoly(1, 0), wrong)
		}
	}
}

func TestPromise19PolysByNought(t *testing.T) {
	for _, p := range edgePolys(t) {
		wantZero(t, impl.DivPoly, p, []impl.Rat(nil))
		wantZero(t, impl.DivPoly, p, []impl.Rat{})
	}
	wantZero(t, impl.SquareFree, []impl.Rat(nil))
	wantZero(t, impl.SquareFree, []impl.Rat{})
}

func TestPromise19PolysOfNumbers(t *testing.T) {
	for _, l := range [][]int{nil, {}, {0}, {0, 0}, {7}, {-7, 0}, {0, 1000, 0, -1000}, {1, 2, 3, 4, 5, 6, 7}, {1, 2, 3, 4, 5, 6, 0}} {
		if x := watch(t, impl.PolyOf, l); !x[1].Bool() {
			t.Errorf("PolyOf %v: refused", l)
		}
	}
}

// Where one of two answers does not fit, the other one is not told either.
func TestPromise19OneOfTwoIsTooLong(t *testing.T) {
	one := positive(1)
	wantZero(t, impl.DivPoly, wholePoly(0, 0, 1), []impl.Rat{turnedRat(whole(powerOf(3))), whole(one)})
	wantZero(t, impl.DivPoly, append(wholePoly(3, 0), whole(half())), append(wholePoly(0), ratOf(t, 1, 2)))
	wantZero(t, impl.DivPoly, append([]impl.Rat{whole(longest())}, wholePoly(1)...), append(wholePoly(-1), whole(one)))
}

// One polynomial as both arguments, one fraction as all coefficients and as the place, one number as Num and Den: none may be worked on in its place, and what is told has memory of its own.
func TestPromise19OnePolyTwice(t *testing.T) {
	one := positive(1)
	same := ratOf(t, -5, 3)
	lists := append(edgePolys(t), []impl.Rat{same, same, same}, []impl.Rat{over(one, one), over(one, one)})
	for _, p := range lists {
		kept := clonePoly(p)
		for _, f := range callsOfOnePoly() {
			wantDirectly(t, f, watch(t, f, kept), p)
		}
		for _, f := range callsOfTwoPolys() {
			wantDirectly(t, f, watch(t, f, kept, clonePoly(p)), p, p)
		}
		for _, f := range callsOfPolyAndPlace() {
			if len(p) > 0 {
				wantDirectly(t, f, watch(t, f, kept, cloneRat(p[0])), p, p[0])
			}
		}
		if !samePoly(p, kept) {
			t.Fatalf("%v was written into: %v", kept, p)
		}
	}
}

// One is the beginning of the other in one memory, so that what lies behind its length is the other's own.
func TestPromise19PolysInOneMemory(t *testing.T) {
	all := wholePoly(6, -5, 1, 4, -2, 0, 3)
	kept := clonePoly(all)
	for n := range len(all) {
		if n == 6 {
			continue // its last coefficient would be 0
		}
		for _, f := range callsOfTwoPolys() {
			wantDirectly(t, f, watch(t, f, clonePoly(all), clonePoly(all[:n])), all, all[:n])
			wantDirectly(t, f, watch(t, f, clonePoly(all[:n]), clonePoly(all)), all[:n], all)
		}
		if !samePoly(all, kept) {
			t.Fatalf("written into: %v", all)
		}
	}
}
