package tests

import (
	"math/big"
	"math/rand/v2"
	"slices"
	"strings"
	"testing"

	"loop.example/g00409/impl"
)

// sideLimbs is how many limbs a number of a matrix may have.
const sideLimbs = 3

// farthest is how far from 0 a coefficient of a resultant may be.
const farthest = 100

// sideMost has sideLimbs limbs: one more would be one limb more.
func sideMost() impl.Big {
	return positive(limbs(sideLimbs, top)...)
}

func matrixOf(rows ...[]int) [][]impl.Big {
	m := make([][]impl.Big, len(rows))
	for i, row := range rows {
		m[i] = make([]impl.Big, len(row))
		for j, n := range row {
			m[i][j] = impl.BigOf(n)
		}
	}
	return m
}

// filledWith has one number at all places, each in memory of its own.
func filledWith(a impl.Big, side int) [][]impl.Big {
	m := make([][]impl.Big, side)
	for i := range m {
		for range side {
			m[i] = append(m[i], cloneBig(a))
		}
	}
	return m
}

func cloneBig(a impl.Big) impl.Big {
	return impl.Big{Neg: a.Neg, Limbs: slices.Clone(a.Limbs)}
}

func cloneMatrix(m [][]impl.Big) [][]impl.Big {
	all := make([][]impl.Big, len(m))
	for i, row := range m {
		for _, a := range row {
			all[i] = append(all[i], cloneBig(a))
		}
	}
	return all
}

func sameMatrix(m, n [][]impl.Big) bool {
	return slices.EqualFunc(m, n, func(a, b []impl.Big) bool { return slices.EqualFunc(a, b, sameBig) })
}

// matrixText has blanks between numbers, and `; ` between rows.
func matrixText(m [][]impl.Big) string {
	rows := []string{}
	for _, row := range m {
		texts := []string{}
		for _, a := range row {
			texts = append(texts, plain(a).String())
		}
		rows = append(rows, strings.Join(texts, " "))
	}
	return strings.Join(rows, "; ")
}

func plainMatrix(m [][]impl.Big) [][]*big.Rat {
	all := make([][]*big.Rat, len(m))
	for i, row := range m {
		for _, a := range row {
			all[i] = append(all[i], new(big.Rat).SetInt(plain(a)))
		}
	}
	return all
}

// plainDet takes fractions of rows away from others (Gauss), which the program does not.
func plainDet(m [][]impl.Big) *big.Int {
	rows, det := plainMatrix(m), big.NewRat(1, 1)
	for k := range rows {
		at := k
		for at < len(rows) && rows[at][k].Sign() == 0 {
			at++
		}
		if at == len(rows) {
			return new(big.Int)
		}
		if at > k {
			rows[k], rows[at] = rows[at], rows[k]
			det.Neg(det)
		}
		det.Mul(det, rows[k][k])
		for _, row := range rows[k+1:] {
			times := new(big.Rat).Quo(row[k], rows[k][k])
			for j := k; j < len(row); j++ {
				row[j].Sub(row[j], new(big.Rat).Mul(times, rows[k][j]))
			}
		}
	}
	return det.Num()
}

// checkDets holds DetOf and DetByParts against what is wanted.
func checkDets(t *testing.T, m [][]impl.Big, want *big.Int) {
	t.Helper()
	det, ok := impl.DetOf(m)
	wantBig(t, "DetOf "+matrixText(m), det, ok, want)
	det, ok = impl.DetByParts(m)
	wantBig(t, "DetByParts "+matrixText(m), det, ok, want)
}

// hadamard has as great a determinant as numbers that are as far from 0 can have.
func hadamard(far impl.Big) [][]impl.Big {
	m := filledWith(far, impl.MaxSide)
	for i, row := range m {
		for j := range row {
			common := i & j
			if (common>>2+common>>1+common)&1 == 1 {
				row[j] = turned(row[j])
			}
		}
	}
	return m
}

// permuted has one number of each row and column that is not 0: row i has it at order[i].
func permuted(order []int, numbers []impl.Big) [][]impl.Big {
	m := filledWith(impl.Big{}, len(order))
	for i, at := range order {
		m[i][at] = numbers[i]
	}
	return m
}

// ordersOf are all orders of 0 up to n - 1, and for each whether an odd number of exchanges leads to it.
func ordersOf(n int) ([][]int, []bool) {
	if n == 0 {
		return [][]int{{}}, []bool{false}
	}
	shorter, odd := ordersOf(n - 1)
	all, allOdd := [][]int{}, []bool{}
	for i, order := range shorter {
		for at := range n {
			all = append(all, slices.Insert(slices.Clone(order), at, n-1))
			allOdd = append(allOdd, odd[i] != ((n-1-at)%2 == 1))
		}
	}
	return all, allOdd
}

// edgeMatrices have as few and as many rows as may be, numbers with as many limbs, noughts at steps, and rows or columns alike.
func edgeMatrices() [][][]impl.Big {
	far, near := sideMost(), positive(0, 0, 1)
	all := [][][]impl.Big{
		matrixOf([]int{0}), matrixOf([]int{7}), matrixOf([]int{-7}), {{far}}, {{turned(far)}}, {{near}},
		matrixOf([]int{0, 1}, []int{1, 0}), matrixOf([]int{0, 1}, []int{0, 1}), matrixOf([]int{0, 0}, []int{5, 7}), matrixOf([]int{1, 2}, []int{2, 4}), matrixOf([]int{3, 4}, []int{3, 4}), matrixOf([]int{3, 3}, []int{4, 4}),
		{{far, turned(far)}, {far, far}}, {{turned(far), far}, {far, turned(near)}}, {{near, far}, {far, near}},
		matrixOf([]int{0, 2, 1}, []int{3, 0, 1}, []int{1, 1, 1}), matrixOf([]int{1, 2, 3}, []int{2, 4, 5}, []int{1, 0, 1}), matrixOf([]int{1, 2, 3}, []int{4, 5, 6}, []int{7, 8, 9}), matrixOf([]int{1, 2, 3}, []int{0, 0, 5}, []int{1, 2, 3}),
		filledWith(impl.Big{}, impl.MaxSide), filledWith(far, impl.MaxSide), hadamard(far), hadamard(turned(far)), hadamard(positive(1)), hadamard(near),
	}
	for _, side := range []int{1, 2, 3, 7, impl.MaxSide} {
		numbers := slices.Repeat([]impl.Big{far, negative(2), near}, 3)[:side]
		same, back, round := make([]int, side), make([]int, side), make([]int, side)
		for i := range side {
			same[i], back[i], round[i] = i, side-1-i, (i+1)%side
		}
		all = append(all, permuted(same, numbers), permuted(back, numbers), permuted(round, numbers))
	}
	return all
}

// someMatrix has numbers of at most so many limbs, some of them 0.
func someMatrix(r *rand.Rand, side, limbs int) [][]impl.Big {
	m := make([][]impl.Big, side)
	for i := range m {
		for range side {
			m[i] = append(m[i], someBig(r, r.IntN(limbs+1)))
		}
	}
	return m
}

// smallMatrix has numbers from -far to far, so that noughts at steps are not seldom.
func smallMatrix(r *rand.Rand, side, far int) [][]impl.Big {
	m := make([][]impl.Big, side)
	for i := range m {
		for range side {
			m[i] = append(m[i], impl.BigOf(r.IntN(2*far+1)-far))
		}
	}
	return m
}

// wrongMatrices are none, each for one reason: no rows or too many, rows that are too short or too long, numbers that are not good, or have a limb too many.
func wrongMatrices() [][][]impl.Big {
	wrong := [][][]impl.Big{
		nil, {}, {{}}, {nil}, {{}, {}}, filledWith(positive(1), impl.MaxSide+1), hadamard9(), filledWith(impl.Big{}, impl.MaxSide+1), filledWith(impl.Big{}, 60),
		matrixOf([]int{1, 2}), matrixOf([]int{1}, []int{2}), matrixOf([]int{1, 2}, []int{3}), matrixOf([]int{1}, []int{2, 3}), matrixOf([]int{1, 2}, []int{3, 4, 5}), matrixOf([]int{1, 2, 3}, []int{4, 5}), matrixOf([]int{1, 2}, []int{}), matrixOf([]int{}, []int{1, 2}),
		matrixOf([]int{1, 2, 3}, []int{4, 5, 6}), matrixOf([]int{1, 2}, []int{3, 4}, []int{5, 6}), matrixOf([]int{0}, []int{0}), matrixOf([]int{1, 2}, []int{1, 2, 3}, []int{3, 4, 5}), matrixOf([]int{1, 0, 0}, []int{0, 1, 0}, []int{0, 0}), matrixOf([]int{1, 0, 0}, []int{0, 1, 0}, []int{0, 0, 1, 0}),
	}
	for _, side := range []int{1, 2, impl.MaxSide} {
		short, long := filledWith(positive(1), side), filledWith(positive(1), side)
		short[side-1] = short[side-1][1:]
		long[side-1] = append(long[side-1], positive(1))
		wrong = append(wrong, short, long)
	}
	for _, a := range append(wrongBigs(), powerOf(sideLimbs), turned(powerOf(sideLimbs)), longest(), most()) {
		wrong = append(wrong, [][]impl.Big{{a}}, filledWith(a, 2))
		for _, at := range [][2]int{{0, 0}, {0, 2}, {1, 1}, {2, 0}, {2, 2}} {
			m := matrixOf([]int{1, 0, 3}, []int{0, 2, 0}, []int{5, 0, 7})
			m[at[0]][at[1]] = a
			wrong = append(wrong, m)
		}
	}
	return wrong
}

// hadamard9 is a matrix with a row and a column too many that would have a determinant.
func hadamard9() [][]impl.Big {
	m := hadamard(positive(1))
	for i := range m {
		m[i] = append(m[i], impl.Big{})
	}
	return append(m, append(filledWith(impl.Big{}, impl.MaxSide)[0], positive(1)))
}

// plainInts are the coefficients of a polynomial of chapter 7.
func plainInts(p []int) plainPoly {
	return plainCoefs(wholePoly(p...))
}

// plainResultant goes by rests (Euclid), which the program does not; both must not be 0.
func plainResultant(p, q plainPoly) *big.Rat {
	n, m := len(p)-1, len(q)-1
	if m == 0 {
		return plainPower(q[0], n)
	}
	_, rest := p.dividedBy(q)
	if len(rest) == 0 {
		return new(big.Rat)
	}
	told := plainResultant(q, rest)
	told.Mul(told, plainPower(q[m], n-len(rest)+1))
	if n*m%2 == 1 {
		told.Neg(told)
	}
	return told
}

// resultant is told, and the same as the way by rests finds.
func resultant(t *testing.T, p, q []int) *big.Int {
	t.Helper()
	det, ok := impl.ResultantOf(p, q)
	if !ok {
		t.Fatalf("ResultantOf %v %v: refused", p, q)
	}
	want := plainResultant(plainInts(p), plainInts(q))
	if !want.IsInt() || plain(det).Cmp(want.Num()) != 0 || !impl.GoodBig(det) {
		t.Fatalf("ResultantOf %v %v: %v, want %v", p, q, det, want)
	}
	return plain(det)
}

// discriminant is told, and the resultant of p and its derivative, as the way by rests finds it.
func discriminant(t *testing.T, p []int) *big.Int {
	t.Helper()
	det, ok := impl.DiscriminantOf(p)
	if !ok {
		t.Fatalf("DiscriminantOf %v: refused", p)
	}
	want := plainResultant(plainInts(p), plainInts(p).slope())
	if plain(det).Cmp(want.Num()) != 0 || !impl.GoodBig(det) {
		t.Fatalf("DiscriminantOf %v: %v, want %v", p, det, want)
	}
	return plain(det)
}

// intsMadeOf multiplies parts; it answers whether the product is a polynomial of chapter 7.
func intsMadeOf(parts ...[]int) ([]int, bool) {
	product := []int{1}
	for _, part := range parts {
		next := make([]int, len(product)+len(part)-1)
		for i, a := range product {
			for j, b := range part {
				next[i+j] += a * b
			}
		}
		product = next
	}
	for _, a := range product {
		if a < -farthest || a > farthest {
			return nil, false
		}
	}
	return product, len(product) >= 2 && len(product) <= 5
}

// smallInts are all with 2 up to n coefficients from -1 to 1.
func smallInts(n int) [][]int {
	all, rows := [][]int{}, [][]int{{}}
	for range n {
		next := [][]int{}
		for _, row := range rows {
			for a := -1; a <= 1; a++ {
				longer := append(slices.Clone(row), a)
				next = append(next, longer)
				if a != 0 && len(longer) >= 2 {
					all = append(all, longer)
				}
			}
		}
		rows = next
	}
	return all
}

// edgeInts have as few and as many coefficients as may be, as far from 0 as may be.
func edgeInts() [][]int {
	return [][]int{
		{0, 1}, {0, -1}, {100, 100}, {-100, 100}, {100, -100}, {-100, -100}, {0, 100}, {1, -100}, {99, 100}, {7, 3},
		{1, 2, 1}, {1, 0, 1}, {-100, 100, 100}, {100, -100, 100}, {0, 0, -100}, {-2, 0, 1},
		{-1, 3, -3, 1}, {100, 100, 100, -100}, {-100, 99, -98, 97}, {0, 0, 0, 100},
		{24, -50, 35, -10, 1}, {100, 100, 100, 100, 100}, {-100, -100, -100, -100, -100}, {100, -100, 100, -100, 100}, {-100, 100, 99, -99, 100}, {0, 0, 0, 0, 100}, {0, 0, 0, 0, -100}, {1, -4, 6, -4, 1}, {100, 0, 0, 0, 1},
	}
}

// wrongInts are no polynomials of chapter 7, each for one reason: too few or too many coefficients, a last one that is 0, or one beyond the limit.
func wrongInts() [][]int {
	wrong := [][]int{
		nil, {}, {1}, {0}, {-100}, {1, 2, 3, 4, 5, 6}, {0, 0, 0, 0, 0, 1}, {1, 2, 3, 4, 5, 0}, {1, 2, 3, 4, 5, 6, 7, 8, 9}, make([]int, 5000),
		{1, 0}, {0, 0}, {100, 0}, {1, 2, 0}, {1, 2, 0, 0}, {1, 2, 3, 0}, {1, 2, 3, 4, 0}, {0, 0, 0, 0, 0},
	}
	for _, far := range []int{farthest + 1, -farthest - 1, 1000, 65536, 1 << 62, 1<<63 - 1, -1 << 63} {
		for n := 2; n <= 5; n++ {
			for at := range n {
				p := []int{1, -2, 3, -4, 5}[:n:n]
				p[at] = far
				wrong = append(wrong, p)
			}
		}
	}
	return wrong
}

// someInts has n coefficients from -far to far, the last one not 0.
func someInts(r *rand.Rand, n, far int) []int {
	p := make([]int, n)
	for i := range p {
		p[i] = r.IntN(2*far+1) - far
	}
	if p[n-1] == 0 {
		p[n-1] = -far
	}
	return p
}
