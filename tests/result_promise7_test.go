package tests

import (
	"slices"
	"testing"

	"loop.example/g00409/impl"
)

// checkCommonRoot: promise 7, two have a root in common just if their resultant is 0 (Sylvester). Roots in common are those of what divides both, on the line or not.
func checkCommonRoot(t *testing.T, p, q []int) bool {
	t.Helper()
	common := len(plainInts(p).common(plainInts(q))) > 1
	det := resultant(t, p, q)
	if (det.Sign() == 0) != common {
		t.Fatalf("ResultantOf %v %v: %v, but a root in common: %v", p, q, det, common)
	}
	if both, ok := impl.GcdPoly(wholePoly(p...), wholePoly(q...)); !ok || (len(both) > 1) != common {
		t.Fatalf("GcdPoly %v %v: %v %v, but a root in common: %v", p, q, both, ok, common)
	}
	return common
}

// checkTwice: of a polynomial and its derivative the roots in common are those that it has twice.
func checkTwice(t *testing.T, p []int) bool {
	t.Helper()
	twice := len(plainInts(p).squareFree()) < len(p)
	if det := discriminant(t, p); (det.Sign() == 0) != twice {
		t.Fatalf("DiscriminantOf %v: %v, but a root twice: %v", p, det, twice)
	}
	if once, ok := impl.SquareFree(wholePoly(p...)); !ok || (len(once) < len(p)) != twice {
		t.Fatalf("SquareFree %v: %v %v, but a root twice: %v", p, once, ok, twice)
	}
	return twice
}

func TestPromise7SmallPolys(t *testing.T) {
	all := smallInts(4)
	common := 0
	for _, p := range all {
		for _, q := range all {
			if checkCommonRoot(t, p, q) {
				common++
			}
		}
	}
	if common == 0 || common == len(all)*len(all) {
		t.Error("so many of", len(all)*len(all), "had a root in common:", common)
	}
}

func TestPromise7SmallPolysTwice(t *testing.T) {
	twice, once := 0, 0
	for _, p := range smallInts(5) {
		if len(p) < 3 {
			continue
		}
		if checkTwice(t, p) {
			twice++
		} else {
			once++
		}
	}
	if twice == 0 || once == 0 {
		t.Error("so many had a root twice, or none:", twice, once)
	}
}

func TestPromise7EdgePolys(t *testing.T) {
	for _, p := range edgeInts() {
		for _, q := range edgeInts() {
			checkCommonRoot(t, p, q)
		}
		if len(p) >= 3 {
			checkTwice(t, p)
		}
	}
}

// partsOfInts have roots that are whole, fractions, neither, and not on the line; no two have one in common.
func partsOfInts() [][]int {
	return [][]int{{0, 1}, {-1, 1}, {1, 1}, {-3, 1}, {-1, 2}, {2, 3}, {-2, 0, 1}, {1, 0, 1}, {1, 1, 1}, {5, -4, 1}, {-1, -1, 0, 1}}
}

// Of polynomials made of parts two have a root in common just if they have a part in common, and one has a root twice just if it has a part twice; lengths are alike and unlike.
func TestPromise7MadeOfParts(t *testing.T) {
	r := fixed(78)
	parts := partsOfInts()
	common, none, unlike, twice := 0, 0, 0, 0
	for range 3000 {
		chosen := [2][]int{}
		made := [2][]int{}
		fits := true
		for i := range made {
			own := [][]int{}
			for range 1 + r.IntN(3) {
				at := r.IntN(len(parts))
				chosen[i] = append(chosen[i], at)
				own = append(own, parts[at])
			}
			product, ok := intsMadeOf(own...)
			made[i], fits = product, fits && ok
		}
		if !fits {
			continue
		}
		shares := slices.ContainsFunc(chosen[0], func(at int) bool { return slices.Contains(chosen[1], at) })
		if checkCommonRoot(t, made[0], made[1]) != shares {
			t.Fatalf("ResultantOf %v %v of the parts %v: a part in common: %v", made[0], made[1], chosen, shares)
		}
		switch {
		case !shares:
			none++
		case len(made[0]) != len(made[1]):
			unlike++
		default:
			common++
		}
		if len(made[0]) < 3 {
			continue
		}
		slices.Sort(chosen[0])
		again := len(slices.Compact(slices.Clone(chosen[0]))) < len(chosen[0])
		if checkTwice(t, made[0]) != again {
			t.Fatalf("DiscriminantOf %v of the parts %v: a part twice: %v", made[0], chosen[0], again)
		}
		if again {
			twice++
		}
	}
	if common == 0 || none == 0 || unlike == 0 || twice == 0 {
		t.Error("in common, none, of unlike lengths, twice:", common, none, unlike, twice)
	}
}

// Roots on the line are compared by chapter 6: where two are one, the resultant is 0; where all roots are on the line, nowhere else.
func TestPromise7RootsCompared(t *testing.T) {
	lists := [][]int{{-1, 1}, {1, 2}, {-2, 0, 1}, {2, -3, 1}, {-1, 0, 1}, {0, -2, 0, 1}, {2, 0, -3, 0, 1}, {24, -50, 35, -10, 1}, {6, -5, 1}, {-3, 0, 1}}
	for _, p := range lists {
		for _, q := range lists {
			one := false
			for _, s := range isolated(t, wholePoly(p...)) {
				for _, other := range isolated(t, wholePoly(q...)) {
					n, ok := impl.CompareRoots(wholePoly(p...), s, wholePoly(q...), other)
					one = one || ok && n == 0
				}
			}
			if checkCommonRoot(t, p, q) != one {
				t.Fatalf("ResultantOf %v %v: but chapter 6 finds a root in common: %v", p, q, one)
			}
		}
	}
}

// checkSteps7: promise 7, by steps one comes to the determinant (Bareiss), which is found by parts, too; and rows as columns have the same one.
func checkSteps7(t *testing.T, m [][]impl.Big) {
	t.Helper()
	steps, stepsTold := impl.DetOf(m)
	parts, partsTold := impl.DetByParts(m)
	if !stepsTold || !partsTold || !sameBig(steps, parts) || plain(steps).Cmp(plainDet(m)) != 0 {
		t.Fatalf("%s: DetOf %v %v, DetByParts %v %v, want %v", matrixText(m), steps, stepsTold, parts, partsTold, plainDet(m))
	}
	columns, ok := impl.TransposeOf(m)
	if !ok {
		t.Fatalf("TransposeOf %s: refused", matrixText(m))
	}
	turnedSteps, stepsTold := impl.DetOf(columns)
	turnedParts, partsTold := impl.DetByParts(columns)
	if !stepsTold || !partsTold || !sameBig(steps, turnedSteps) || !sameBig(steps, turnedParts) {
		t.Fatalf("%s: %v, rows as columns: DetOf %v %v, DetByParts %v %v", matrixText(m), steps, turnedSteps, stepsTold, turnedParts, partsTold)
	}
	if again, ok := impl.TransposeOf(columns); !ok || !sameMatrix(again, m) {
		t.Fatalf("TransposeOf twice %s: %s", matrixText(m), matrixText(again))
	}
}

func TestPromise7EdgeMatrices(t *testing.T) {
	for _, m := range edgeMatrices() {
		checkSteps7(t, m)
	}
}

func TestPromise7SomeMatrices(t *testing.T) {
	r := fixed(79)
	signs := map[int]int{}
	for side := 1; side <= impl.MaxSide; side++ {
		for range 30 {
			for _, m := range [][][]impl.Big{smallMatrix(r, side, 1), smallMatrix(r, side, 30), someMatrix(r, side, sideLimbs)} {
				checkSteps7(t, m)
				signs[plainDet(m).Sign()]++
			}
		}
	}
	if signs[-1] == 0 || signs[0] == 0 || signs[1] == 0 {
		t.Error("signs of determinants:", signs)
	}
}

// Two rows changed for each other turn the sign, next to each other or not; a row put to another one changes nothing.
func TestPromise7RowsChanged(t *testing.T) {
	r := fixed(80)
	for side := 2; side <= impl.MaxSide; side++ {
		for range 20 {
			m := smallMatrix(r, side, 9)
			det, _ := impl.DetOf(m)
			i := r.IntN(side)
			j := (i + 1 + r.IntN(side-1)) % side
			changed := cloneMatrix(m)
			changed[i], changed[j] = changed[j], changed[i]
			checkDets(t, changed, plain(turned(det)))
			put := cloneMatrix(m)
			for at := range put[i] {
				sum, ok := impl.AddBig(put[i][at], put[j][at])
				if !ok {
					t.Fatal("AddBig: refused")
				}
				put[i][at] = sum
			}
			checkDets(t, put, plain(det))
		}
	}
}
