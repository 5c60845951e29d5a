package tests

import (
	"slices"
	"testing"

	"loop.example/g00409/impl"
)

func callsOfMatrix() []any {
	return []any{impl.DetOf, impl.DetByParts, impl.TransposeOf}
}

func callsOfTwoInts() []any {
	return []any{impl.SylvesterOf, impl.ResultantOf}
}

// watchTold wants an answer, too.
func watchTold(t *testing.T, f any, args ...any) told {
	t.Helper()
	x := watch(t, f, args...)
	if !x[len(x)-1].Bool() {
		t.Fatalf("%s %v: refused", nameOf(f), args)
	}
	return x
}

func TestPromise19GoodMatrices(t *testing.T) {
	r := fixed(81)
	all := edgeMatrices()
	for side := 1; side <= impl.MaxSide; side++ {
		all = append(all, someMatrix(r, side, sideLimbs), smallMatrix(r, side, 1))
	}
	for side := 1; side <= 4; side++ {
		for k := range side {
			for at := k; at <= side; at++ {
				rows, _ := steppedInto(r.IntN, side, k, at)
				all = append(all, matrixOf(rows...))
			}
		}
	}
	for _, m := range all {
		for _, f := range callsOfMatrix() {
			watchTold(t, f, m)
		}
	}
}

func TestPromise19WrongMatrices(t *testing.T) {
	for _, wrong := range wrongMatrices() {
		for _, f := range callsOfMatrix() {
			wantZero(t, f, wrong)
		}
	}
}

// A wrong number at each place of a matrix with as many rows as may be: all of them are looked at, though a 0 or two rows alike would end the steps early.
func TestPromise19WrongNumberAnywhere(t *testing.T) {
	for _, from := range [][][]impl.Big{filledWith(impl.Big{}, impl.MaxSide), filledWith(positive(1), impl.MaxSide), hadamard(positive(3))} {
		for i := range from {
			for j := range from {
				for _, a := range []impl.Big{{Neg: true}, positive(0), positive(-1), powerOf(sideLimbs)} {
					m := cloneMatrix(from)
					m[i][j] = a
					for _, f := range callsOfMatrix() {
						wantZero(t, f, m)
					}
				}
			}
		}
	}
}

func TestPromise19RowsOfWrongLength(t *testing.T) {
	for side := 1; side <= impl.MaxSide; side++ {
		for at := range side {
			for _, n := range []int{0, side - 1, side + 1, 2 * side, impl.MaxSide + 1} {
				if n == side {
					continue
				}
				m := filledWith(positive(2), side)
				m[at] = slices.Repeat([]impl.Big{positive(2)}, n)
				for _, f := range callsOfMatrix() {
					wantZero(t, f, m)
				}
			}
		}
	}
}

func TestPromise19GoodInts(t *testing.T) {
	for _, p := range edgeInts() {
		for _, q := range edgeInts() {
			for _, f := range callsOfTwoInts() {
				watchTold(t, f, p, q)
			}
		}
		if len(p) >= 3 {
			watchTold(t, impl.DiscriminantOf, p)
		}
	}
}

func TestPromise19WrongInts(t *testing.T) {
	fine := [][]int{{1, 2}, {-100, 100, 100}, {1, 2, 3, 4, 5}}
	for _, wrong := range wrongInts() {
		wantZero(t, impl.DiscriminantOf, wrong)
		for _, f := range callsOfTwoInts() {
			for _, other := range fine {
				wantZero(t, f, wrong, other)
				wantZero(t, f, other, wrong)
			}
			wantZero(t, f, wrong, wrong)
		}
	}
}

// Polynomials of 2 numbers have resultants, but no discriminant: their derivative has no row of its own.
func TestPromise19DiscriminantOfTwo(t *testing.T) {
	for _, p := range edgeInts() {
		if len(p) == 2 {
			wantZero(t, impl.DiscriminantOf, p)
		}
	}
	for _, p := range [][]int{{100, -100, 100}, {-100, 100, -100, 100, -100}} {
		watchTold(t, impl.DiscriminantOf, p)
	}
}

// One list as all rows, one number at all places, one number twice in a row: none may be worked on in its place, and what is told has memory of its own.
func TestPromise19MatrixInOneMemory(t *testing.T) {
	row, number := matrixOf([]int{3, 70000, -5})[0], negative(1, 2, 3)
	all := [][][]impl.Big{
		{row, row, row}, {{number, number}, {number, turned(number)}}, {{number}},
		{row, {row[1], row[0], row[2]}, {row[2], row[2], row[1]}},
		{{impl.Big{}, row[0], row[1]}, {row[1], impl.Big{}, row[0]}, {row[1], row[0], impl.Big{}}},
	}
	for _, m := range all {
		kept := cloneMatrix(m)
		for _, f := range callsOfMatrix() {
			wantDirectly(t, f, watch(t, f, kept), m)
		}
		if !sameMatrix(m, kept) {
			t.Fatalf("%v was written into: %v", kept, m)
		}
	}
}

// Rows are cut out of one list, so that what lies behind each one's length is the next row; and the matrix is the beginning of a longer list of rows.
func TestPromise19RowsBehindEachOther(t *testing.T) {
	list := matrixOf([]int{0, 2, 1, 0, 0, 1, 3, 1, 1, 99})[0]
	m := [][]impl.Big{list[0:3], list[3:6], list[6:9], list[1:4]}
	kept := cloneMatrix(m)
	for n := 1; n <= 3; n++ {
		part := m[:n]
		if n < 3 {
			part = cornerOf(m, n)
		}
		for _, f := range callsOfMatrix() {
			wantDirectly(t, f, watch(t, f, cloneMatrix(part)), part)
		}
	}
	if !sameMatrix(m, kept) || !sameBig(list[9], positive(99)) {
		t.Fatalf("written into: %v", m)
	}
}

// One polynomial as both arguments, and one that is the beginning of the other.
func TestPromise19IntsInOneMemory(t *testing.T) {
	all := []int{6, -5, 1, 4, -2}
	kept := slices.Clone(all)
	for n := 2; n <= len(all); n++ {
		for _, f := range callsOfTwoInts() {
			wantDirectly(t, f, watch(t, f, kept, slices.Clone(all[:n])), all, all[:n])
			wantDirectly(t, f, watch(t, f, slices.Clone(all[:n]), kept), all[:n], all)
		}
	}
	if !slices.Equal(all, kept) {
		t.Fatalf("written into: %v", all)
	}
}

// What is told is new at each call, and no two lists of it share memory.
func TestPromise19ToldAnew(t *testing.T) {
	for _, tell := range []func() ([][]impl.Big, bool){
		func() ([][]impl.Big, bool) { return impl.SylvesterOf([]int{1, 2, 3}, []int{4, 5, 6, 7, 8}) },
		func() ([][]impl.Big, bool) { return impl.TransposeOf(filledWith(positive(7, 8, 9), impl.MaxSide)) },
	} {
		first, ok := tell()
		if !ok {
			t.Fatal("refused")
		}
		kept := cloneMatrix(first)
		for i, row := range first {
			for j := range row {
				for k := range row[j].Limbs {
					row[j].Limbs[k] = -7
				}
				row[j] = impl.Big{Neg: true}
				kept[i][j] = impl.Big{Neg: true}
				if !sameMatrix(first, kept) {
					t.Fatalf("a change at %d and %d is seen elsewhere: %v", i, j, first)
				}
			}
			first[i] = append(row, positive(1))[:len(row)]
		}
		again, ok := tell()
		if !ok || sameMatrix(again, first) {
			t.Errorf("told again: %v %v", again, ok)
		}
	}
}
