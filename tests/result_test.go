package tests

import (
	"math/big"
	"slices"
	"testing"

	"loop.example/g00409/impl"
)

func TestMaxSide(t *testing.T) {
	if impl.MaxSide != 8 {
		t.Error(impl.MaxSide)
	}
}

func TestDetsWrittenOut(t *testing.T) {
	for _, c := range []struct {
		rows [][]int
		want int64
	}{
		{[][]int{{5}}, 5}, {[][]int{{-5}}, -5}, {[][]int{{0}}, 0},
		{[][]int{{1, 2}, {3, 4}}, -2}, {[][]int{{3, 4}, {1, 2}}, 2}, {[][]int{{1, 2}, {2, 4}}, 0}, {[][]int{{0, 2}, {3, 0}}, -6}, {[][]int{{0, 0}, {3, 1}}, 0},
		{[][]int{{0, 2, 1}, {3, 0, 1}, {1, 1, 1}}, -1},
		{[][]int{{2, 0, 0}, {0, 3, 0}, {0, 0, -4}}, -24},
		{[][]int{{6, 1, 1}, {4, -2, 5}, {2, 8, 7}}, -306},
		{[][]int{{1, 2, 3}, {4, 5, 6}, {7, 8, 9}}, 0},
		{[][]int{{1, 2, 3}, {4, 5, 6}, {1, 2, 3}}, 0},
		{[][]int{{0, 0, 1}, {0, 1, 0}, {1, 0, 0}}, -1},
		{[][]int{{0, 1, 0}, {0, 0, 1}, {1, 0, 0}}, 1},
		// After the first step the second row has 0 at the second place.
		{[][]int{{1, 2, 3}, {2, 4, 5}, {1, 0, 1}}, -2},
		{[][]int{{1, 1, 1, 1}, {1, 1, 2, 3}, {1, 1, 4, 9}, {1, 2, 8, 27}}, 2},
		{[][]int{{3, 2, 0, 1}, {4, 0, 1, 2}, {3, 0, 2, 1}, {9, 2, 3, 1}}, 24},
		{[][]int{{1, 1, 1, 1}, {1, 2, 4, 8}, {1, 3, 9, 27}, {1, 4, 16, 64}}, 12},
	} {
		checkDets(t, matrixOf(c.rows...), big.NewInt(c.want))
	}
}

func TestDetsOfEdges(t *testing.T) {
	for _, m := range edgeMatrices() {
		checkDets(t, m, plainDet(m))
	}
}

// All matrices of 2 rows from -2 to 2, and of 3 rows from -1 to 1.
func TestDetsOfSmallMatrices(t *testing.T) {
	signs := map[int]int{}
	for _, c := range []struct{ side, far int }{{1, 2}, {2, 2}, {3, 1}} {
		places, base := c.side*c.side, 2*c.far+1
		count := 1
		for range places {
			count *= base
		}
		for code := range count {
			m := filledWith(impl.Big{}, c.side)
			for at, left := 0, code; at < places; at, left = at+1, left/base {
				m[at/c.side][at%c.side] = impl.BigOf(left%base - c.far)
			}
			want := plainDet(m)
			signs[want.Sign()]++
			checkDets(t, m, want)
		}
	}
	if signs[-1] == 0 || signs[0] == 0 || signs[1] == 0 {
		t.Error("signs of determinants:", signs)
	}
}

func TestDetsOfSome(t *testing.T) {
	r := fixed(70)
	for side := 1; side <= impl.MaxSide; side++ {
		for range 40 {
			for _, m := range [][][]impl.Big{smallMatrix(r, side, 1), smallMatrix(r, side, 1000), someMatrix(r, side, sideLimbs)} {
				checkDets(t, m, plainDet(m))
			}
		}
	}
}

// Each order of rows with one number each: at each step the row that is wanted is next to it, further on, or there already.
func TestDetsOfAllOrders(t *testing.T) {
	numbers := []impl.Big{positive(2), negative(3), positive(0, 1), positive(5), negative(7), sideMost()}
	for n := 1; n <= len(numbers); n++ {
		product := big.NewInt(1)
		for _, a := range numbers[:n] {
			product.Mul(product, plain(a))
		}
		orders, odd := ordersOf(n)
		for i, order := range orders {
			want := new(big.Int).Set(product)
			if odd[i] {
				want.Neg(want)
			}
			checkDets(t, permuted(order, numbers[:n]), want)
		}
	}
}

// steppedInto is a matrix that has 0 at k in the row k, and in all rows behind it up to the row at, but not in that one, only once k steps are done; its determinant is told, too. Where at is the side there is no such row.
func steppedInto(r func(int) int, side, k, at int) ([][]int, int64) {
	rows, det := make([][]int, side), int64(1)
	for i := range rows {
		rows[i] = make([]int, side)
		for j := i; j < side; j++ {
			rows[i][j] = 1 + r(4)
		}
	}
	if at == side {
		rows[k][k] = 0
	}
	for i := range rows {
		det *= int64(rows[i][i])
	}
	if at > k && at < side {
		rows[k], rows[at] = rows[at], rows[k]
		det = -det
	}
	for i := side - 1; i > 0; i-- {
		for ahead := range min(i, k) {
			times := 1 + r(2)
			for j := range side {
				rows[i][j] += times * rows[ahead][j]
			}
		}
	}
	return rows, det
}

func TestDetsWithNoughtAtAStep(t *testing.T) {
	r := fixed(71)
	for side := 1; side <= impl.MaxSide; side++ {
		for k := range side {
			for at := k; at <= side; at++ {
				rows, want := steppedInto(r.IntN, side, k, at)
				m := matrixOf(rows...)
				checkDets(t, m, big.NewInt(want))
				if first := plainDet(cornerOf(m, k+1)); (first.Sign() == 0) != (at > k) {
					t.Fatalf("%v: its first %d rows and columns have %v", rows, k+1, first)
				}
			}
		}
	}
}

// cornerOf has the first n rows and columns.
func cornerOf(m [][]impl.Big, n int) [][]impl.Big {
	corner := cloneMatrix(m)[:n]
	for i := range corner {
		corner[i] = corner[i][:n]
	}
	return corner
}

func TestDetsOfRowsAlike(t *testing.T) {
	r := fixed(72)
	for side := 2; side <= impl.MaxSide; side++ {
		for i := range side {
			for j := range i {
				m := someMatrix(r, side, sideLimbs)
				m[i] = cloneMatrix(m)[j]
				checkDets(t, m, new(big.Int))
				// All but one number alike, or alike but for one sign, is another row.
				at := r.IntN(side)
				m[i][at] = impl.BigOf(1 + r.IntN(5))
				checkDets(t, m, plainDet(m))
				m[i][at] = turned(m[j][at])
				checkDets(t, m, plainDet(m))
			}
		}
	}
	for _, m := range [][][]impl.Big{
		{{positive(5), positive(1)}, {negative(5), positive(1)}},
		{{positive(5), positive(0, 1)}, {positive(5), positive(0, 0, 1)}},
		{{positive(1), positive(1, 1)}, {positive(1), positive(1, 1, 1)}},
		{{impl.Big{}, positive(1)}, {positive(1), impl.Big{}}},
	} {
		if plainDet(m).Sign() == 0 {
			t.Fatal("alike:", m)
		}
		checkDets(t, m, plainDet(m))
	}
	// The empty list of limbs and none at all are one number, so that these rows are alike.
	checkDets(t, [][]impl.Big{{{Limbs: []int{}}, positive(3)}, {{}, positive(3)}}, new(big.Int))
}

// Columns alike are seen by steps alone.
func TestDetsOfColumnsAlike(t *testing.T) {
	r := fixed(73)
	for side := 2; side <= impl.MaxSide; side++ {
		m := someMatrix(r, side, sideLimbs)
		for _, row := range m {
			row[side-1] = cloneBig(row[0])
		}
		checkDets(t, m, new(big.Int))
	}
}

// Numbers of 3 limbs: a product on the way of the steps has more than MaxLimbs limbs, but no determinant has.
func TestDetsOfGreatestNumbers(t *testing.T) {
	m := hadamard(sideMost())
	corner := plainDet(cornerOf(m, impl.MaxSide-1))
	if product := fromPlain(new(big.Int).Mul(corner, corner)); len(product.Limbs) <= impl.MaxLimbs {
		t.Fatal("a product on the way has limbs:", len(product.Limbs))
	}
	want := new(big.Int).Exp(plain(sideMost()), big.NewInt(impl.MaxSide), nil)
	want.Mul(want, big.NewInt(4096))
	if det := plainDet(m); new(big.Int).Abs(det).Cmp(want) != 0 {
		t.Fatal("the greatest determinant:", det)
	}
	checkDets(t, m, plainDet(m))
	m[0], m[1] = m[1], m[0]
	checkDets(t, m, plainDet(m))
	r := fixed(74)
	for range 50 {
		for _, row := range m {
			for j := range row {
				if r.IntN(2) == 0 {
					row[j] = turned(row[j])
				}
			}
		}
		checkDets(t, m, plainDet(m))
	}
}

func TestLimbsOfMatrixMetAndGoneBeyond(t *testing.T) {
	for _, a := range []impl.Big{sideMost(), turned(sideMost()), positive(0, 0, 1), positive(1, 0, 1)} {
		checkDets(t, [][]impl.Big{{a}}, plain(a))
		checkDets(t, [][]impl.Big{{positive(1), {}}, {{}, a}}, plain(a))
		if told, ok := impl.TransposeOf([][]impl.Big{{a}}); !ok || !sameMatrix(told, [][]impl.Big{{a}}) {
			t.Errorf("TransposeOf %v: %v %v", a, told, ok)
		}
	}
	for _, a := range []impl.Big{powerOf(3), turned(powerOf(3)), positive(limbs(4, top)...), negative(1, 0, 0, 1)} {
		for _, f := range []any{impl.DetOf, impl.DetByParts, impl.TransposeOf} {
			wantZero(t, f, [][]impl.Big{{a}})
			wantZero(t, f, [][]impl.Big{{positive(1), {}}, {{}, a}})
			wantZero(t, f, [][]impl.Big{{positive(1), a}, {{}, {}}})
		}
	}
}

func TestTransposesWrittenOut(t *testing.T) {
	for _, c := range []struct {
		rows [][]int
		want string
	}{
		{[][]int{{-7}}, "-7"},
		{[][]int{{1, 2}, {3, 4}}, "1 3; 2 4"},
		{[][]int{{0, 2, 1}, {3, 0, 1}, {-1, 1, 70000}}, "0 3 -1; 2 0 1; 1 1 70000"},
		{[][]int{{1, 2, 3, 4}, {0, 0, 0, 0}, {5, 6, 7, 8}, {9, 9, 9, 9}}, "1 0 5 9; 2 0 6 9; 3 0 7 9; 4 0 8 9"},
	} {
		told, ok := impl.TransposeOf(matrixOf(c.rows...))
		if got := matrixText(told); got != c.want || !ok {
			t.Errorf("TransposeOf %v: %q %v, want %q", c.rows, got, ok, c.want)
		}
	}
}

func TestTransposes(t *testing.T) {
	r := fixed(75)
	all := edgeMatrices()
	for side := 1; side <= impl.MaxSide; side++ {
		all = append(all, someMatrix(r, side, sideLimbs))
	}
	for _, m := range all {
		told, ok := impl.TransposeOf(m)
		if !ok || len(told) != len(m) {
			t.Fatalf("TransposeOf %s: %v %v", matrixText(m), told, ok)
		}
		for i, row := range told {
			for j, a := range row {
				if len(row) != len(m) || !sameBig(a, m[j][i]) {
					t.Fatalf("TransposeOf %s: %s", matrixText(m), matrixText(told))
				}
			}
		}
	}
}

func TestSylvestersWrittenOut(t *testing.T) {
	for _, c := range []struct {
		p, q []int
		want string
	}{
		{[]int{2, 3}, []int{5, 7}, "3 2; 7 5"},
		{[]int{-1, 1}, []int{-2, 0, 1}, "1 -1 0; 0 1 -1; 1 0 -2"},
		{[]int{-2, 0, 1}, []int{-1, 1}, "1 0 -2; 1 -1 0; 0 1 -1"},
		{[]int{1, 2, 3}, []int{4, 5, 6}, "3 2 1 0; 0 3 2 1; 6 5 4 0; 0 6 5 4"},
		{[]int{0, 100}, []int{-100, 0, 0, 0, 100}, "100 0 0 0 0; 0 100 0 0 0; 0 0 100 0 0; 0 0 0 100 0; 100 0 0 0 -100"},
		{[]int{1, 2, 3, 4, 5}, []int{6, 7}, "5 4 3 2 1; 7 6 0 0 0; 0 7 6 0 0; 0 0 7 6 0; 0 0 0 7 6"},
		{[]int{1, 2, 3, 4, 5}, []int{-1, 0, 0, 0, -9}, "5 4 3 2 1 0 0 0; 0 5 4 3 2 1 0 0; 0 0 5 4 3 2 1 0; 0 0 0 5 4 3 2 1; -9 0 0 0 -1 0 0 0; 0 -9 0 0 0 -1 0 0; 0 0 -9 0 0 0 -1 0; 0 0 0 -9 0 0 0 -1"},
	} {
		rows, ok := impl.SylvesterOf(c.p, c.q)
		if got := matrixText(rows); got != c.want || !ok {
			t.Errorf("SylvesterOf %v %v: %q %v, want %q", c.p, c.q, got, ok, c.want)
		}
	}
}

// Rows times powers of a place, the highest first, are each polynomial times a power: so each coefficient stands where it must.
func TestSylvestersByPowers(t *testing.T) {
	x := big.NewRat(1000003, 1)
	for _, p := range edgeInts() {
		for _, q := range edgeInts() {
			rows, ok := impl.SylvesterOf(p, q)
			n, m := len(p)-1, len(q)-1
			if !ok || len(rows) != n+m {
				t.Fatalf("SylvesterOf %v %v: %v %v", p, q, rows, ok)
			}
			for i, row := range rows {
				own, power := plainInts(p), m-1-i
				if i >= m {
					own, power = plainInts(q), n-1-(i-m)
				}
				highest := slices.Clone(row)
				slices.Reverse(highest)
				sum := new(big.Rat)
				for j, a := range highest {
					sum.Add(sum, new(big.Rat).Mul(new(big.Rat).SetInt(plain(a)), plainPower(x, j)))
				}
				if want := own.at(x); len(row) != n+m || want.Mul(want, plainPower(x, power)).Cmp(sum) != 0 {
					t.Fatalf("SylvesterOf %v %v: %s, row %d", p, q, matrixText(rows), i)
				}
			}
		}
	}
}

func TestResultantsWrittenOut(t *testing.T) {
	for _, c := range []struct {
		p, q []int
		want int64
	}{
		{[]int{-1, 1}, []int{-2, 0, 1}, -1}, {[]int{-1, 1}, []int{-1, 0, 1}, 0},
		{[]int{-2, 1}, []int{-5, 1}, -3}, {[]int{-5, 1}, []int{-2, 1}, 3}, {[]int{2, 3}, []int{5, 7}, 1}, {[]int{0, 1}, []int{0, -1}, 0},
		// Roots 1, 2 and 3, 4: differences -2, -3, -1, -2.
		{[]int{2, -3, 1}, []int{12, -7, 1}, 12},
		{[]int{2, -3, 1}, []int{6, -5, 1}, 0},
		{[]int{1, 0, 1}, []int{-2, 0, 1}, 9}, {[]int{1, 0, 1}, []int{1, 0, 2, 0, 1}, 0},
		{[]int{-2, 1}, []int{0, 0, 0, 0, 1}, 16}, {[]int{-2, 3}, []int{1, 0, 0, 0, 1}, 97}, {[]int{1, 0, 0, 0, 1}, []int{-2, 3}, 97},
		{[]int{-1, 0, 0, 1}, []int{-3, 2}, -19}, {[]int{-3, 2}, []int{-1, 0, 0, 1}, 19},
	} {
		det, ok := impl.ResultantOf(c.p, c.q)
		wantBig(t, "ResultantOf", det, ok, big.NewInt(c.want))
		resultant(t, c.p, c.q)
	}
}

func TestResultantsOfEdges(t *testing.T) {
	for _, p := range edgeInts() {
		for _, q := range edgeInts() {
			resultant(t, p, q)
		}
	}
}

// ResultantOf is DetOf of SylvesterOf, and so are both polynomials changed for each other but for a sign.
func TestResultantsOfSome(t *testing.T) {
	r := fixed(76)
	for range 600 {
		far := []int{2, 10, farthest}[r.IntN(3)]
		p, q := someInts(r, 2+r.IntN(4), far), someInts(r, 2+r.IntN(4), far)
		det := resultant(t, p, q)
		rows, ok := impl.SylvesterOf(p, q)
		if !ok {
			t.Fatalf("SylvesterOf %v %v: refused", p, q)
		}
		checkDets(t, rows, det)
		other := resultant(t, q, p)
		if (len(p)-1)*(len(q)-1)%2 == 1 {
			other.Neg(other)
		}
		if other.Cmp(det) != 0 {
			t.Fatalf("ResultantOf %v %v: %v, the other way %v", p, q, det, other)
		}
	}
}

func TestDiscriminantsWrittenOut(t *testing.T) {
	for _, c := range []struct {
		p    []int
		want int64
	}{
		{[]int{1, 2, 1}, 0}, {[]int{-2, 0, 1}, -8}, {[]int{1, 0, 1}, 4}, {[]int{2, -3, 1}, -1}, {[]int{1, 1, 2}, 14}, {[]int{1, 1, -2}, 18}, {[]int{0, 0, 5}, 0},
		{[]int{0, -1, 0, 1}, -4}, {[]int{-1, 3, -3, 1}, 0}, {[]int{2, -5, 4, -1}, 0}, {[]int{1, 1, 0, 1}, 31},
		{[]int{1, 0, 0, 0, 1}, 256}, {[]int{-1, 0, 0, 0, 1}, -256}, {[]int{1, 0, -2, 0, 1}, 0}, {[]int{24, -50, 35, -10, 1}, 144},
		// The derivative goes beyond the limit that the polynomial keeps to.
		{[]int{100, 0, 0, 0, 100}, 256e14}, {[]int{0, 100, 100}, -1000000},
	} {
		det, ok := impl.DiscriminantOf(c.p)
		wantBig(t, "DiscriminantOf", det, ok, big.NewInt(c.want))
		discriminant(t, c.p)
	}
}

// By steps of what SylvesterOf would tell if the derivative were no further than the limit, which it is for small ones.
func TestDiscriminantsAsResultants(t *testing.T) {
	r := fixed(77)
	for range 300 {
		p := someInts(r, 3+r.IntN(3), 25)
		slope := []int{}
		for i, a := range p[1:] {
			slope = append(slope, (i+1)*a)
		}
		if det := discriminant(t, p); det.Cmp(resultant(t, p, slope)) != 0 {
			t.Fatalf("DiscriminantOf %v: %v, not the resultant with %v", p, det, slope)
		}
		discriminant(t, someInts(r, 3+r.IntN(3), farthest))
	}
	for _, p := range edgeInts() {
		if len(p) >= 3 {
			discriminant(t, p)
		}
	}
}

// The discriminants that are known by heart, but for the last coefficient and a sign.
func TestDiscriminantsByHeart(t *testing.T) {
	for a := -3; a <= 3; a++ {
		for b := -3; b <= 3; b++ {
			for c := -3; c <= 3; c++ {
				for d := -3; d <= 3; d++ {
					if a == 0 {
						continue
					}
					det, ok := impl.DiscriminantOf([]int{c, b, a})
					wantBig(t, "DiscriminantOf", det, ok, big.NewInt(int64(-a*(b*b-4*a*c))))
					det, ok = impl.DiscriminantOf([]int{d, c, b, a})
					wantBig(t, "DiscriminantOf", det, ok, big.NewInt(int64(-a*(b*b*c*c-4*a*c*c*c-4*b*b*b*d-27*a*a*d*d+18*a*b*c*d))))
				}
			}
		}
	}
}
