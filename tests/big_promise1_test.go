package tests

import (
	"math/big"
	"testing"

	"loop.example/g00409/impl"
)

// checkHalves: promise 1, a product by three products of halves is the product.
func checkHalves(t *testing.T, a, b impl.Big) {
	t.Helper()
	product, ok := impl.MulBig(a, b)
	halves, is := impl.HalvesMul(a, b)
	if ok != is || !sameBig(product, halves) {
		t.Fatalf("%v times %v: %v %v, by halves %v %v", a, b, product, ok, halves, is)
	}
	wantBig(t, "HalvesMul", halves, is, new(big.Int).Mul(plain(a), plain(b)))
}

// checkDivision: promise 1, a quotient and what is left make up what was divided.
func checkDivision(t *testing.T, a, b impl.Big) {
	t.Helper()
	q, r, ok := impl.DivBig(a, b)
	if !ok || !impl.GoodBig(q) || !impl.GoodBig(r) {
		t.Fatalf("%v by %v: %v %v %v", a, b, q, r, ok)
	}
	whole, _ := impl.MulBig(q, b)
	if whole, ok = impl.AddBig(whole, r); !ok || !sameBig(whole, a) {
		t.Fatalf("%v by %v: %v and %v make up %v", a, b, q, r, whole)
	}
	if len(r.Limbs) > 0 && r.Neg != a.Neg {
		t.Fatalf("%v by %v: the rest %v has another sign", a, b, r)
	}
	if plain(r).CmpAbs(plain(b)) >= 0 {
		t.Fatalf("%v by %v: the rest %v is too great", a, b, r)
	}
	wq, wr := new(big.Int).QuoRem(plain(a), plain(b), new(big.Int))
	wantBig(t, "the quotient", q, ok, wq)
	wantBig(t, "the rest", r, ok, wr)
}

func TestPromise1HalvesOfEveryLength(t *testing.T) {
	r := fixed(4)
	for n := 0; n <= impl.MaxLimbs; n++ {
		for m := 0; m <= impl.MaxLimbs; m++ {
			checkHalves(t, positive(limbs(n, top)...), negative(limbs(max(m, 1), top)...))
			checkHalves(t, someBig(r, n), someBig(r, m))
		}
	}
}

func TestPromise1HalvesOfFewLimbs(t *testing.T) {
	few := fewLimbs([]int{0, 1, top}, 4)
	for _, a := range few {
		for _, b := range few {
			checkHalves(t, a, b)
		}
	}
}

// fewLimbs are all numbers of at most n limbs out of those given.
func fewLimbs(from []int, n int) []impl.Big {
	all := []impl.Big{{}}
	for i := 0; i < len(all); i++ {
		if len(all[i].Limbs) == n {
			break
		}
		for _, limb := range from {
			all = append(all, positive(append([]int{limb}, all[i].Limbs...)...))
		}
	}
	good := []impl.Big{}
	for _, a := range all {
		if impl.GoodBig(a) {
			good = append(good, a)
		}
	}
	return good
}

func TestPromise1DivisionSigns(t *testing.T) {
	rows := [][4]int{
		{17, 5, 3, 2}, {-17, 5, -3, -2}, {17, -5, -3, 2}, {-17, -5, 3, -2},
		{0, 5, 0, 0}, {0, -5, 0, 0}, {4, 5, 0, 4}, {-4, 5, 0, -4}, {5, 5, 1, 0}, {-5, 5, -1, 0},
		{1 << 40, 1 << 20, 1 << 20, 0}, {1<<40 - 1, -(1 << 20), -(1<<20 - 1), 1<<20 - 1},
	}
	for _, row := range rows {
		q, r, ok := impl.DivBig(impl.BigOf(row[0]), impl.BigOf(row[1]))
		if !ok || !sameBig(q, impl.BigOf(row[2])) || !sameBig(r, impl.BigOf(row[3])) {
			t.Errorf("%d by %d: %v %v %v", row[0], row[1], q, r, ok)
		}
	}
}

// In each of these a guessed digit is too great: by one where it must be taken back, or beyond a limb.
func TestPromise1DivisionTakesGuessBack(t *testing.T) {
	rows := []struct{ a, b, q, r []int }{
		{[]int{3, 0, 32768}, []int{1, 0, 8192}, []int{3}, []int{0, 0, 8192}},
		{[]int{0, 0, 32768, 32767}, []int{1, 0, 32768}, []int{top - 1}, []int{2, top, 32767}},
		{[]int{0, top - 1, 32768}, []int{top, 32768}, []int{top}, []int{top, 32767}},
		{[]int{0, 0, 0, 32768, 32767}, []int{1, 0, 0, 32768}, []int{top - 1}, []int{2, top, top, 32767}},
	}
	for _, row := range rows {
		for _, neg := range []bool{false, true} {
			a, b := impl.Big{Neg: neg, Limbs: row.a}, positive(row.b...)
			checkDivision(t, a, b)
			q, r, _ := impl.DivBig(a, b)
			if !sameBig(q, impl.Big{Neg: neg, Limbs: row.q}) || !sameBig(r, impl.Big{Neg: neg, Limbs: row.r}) {
				t.Errorf("%v by %v: %v %v", a, b, q, r)
			}
		}
	}
}

func TestPromise1DivisionOfFewLimbs(t *testing.T) {
	few := fewLimbs([]int{0, 1, 32767, 32768, top}, 4)
	for _, b := range fewLimbs([]int{1, 32768, top}, 3) {
		for _, a := range few {
			if len(b.Limbs) > 0 {
				checkDivision(t, a, b)
			}
		}
	}
}

func TestPromise1DivisionOfMany(t *testing.T) {
	for _, a := range edgeBigs() {
		for _, b := range edgeBigs() {
			if len(b.Limbs) > 0 {
				checkDivision(t, a, b)
			}
		}
	}
	r := fixed(5)
	for range 20000 {
		n := r.IntN(impl.MaxLimbs + 1)
		checkDivision(t, someBig(r, n), someBig(r, 1+r.IntN(max(n, 1))))
	}
}

// What is one less than a multiple leaves the greatest rest, and has the greatest digits guessed.
func TestPromise1DivisionNextToMultiples(t *testing.T) {
	r := fixed(6)
	for range 5000 {
		n := 1 + r.IntN(20)
		b, q := someBig(r, n), someBig(r, 1+r.IntN(20))
		a, ok := impl.MulBig(b, q)
		if !ok {
			t.Fatalf("%v times %v", b, q)
		}
		less, _ := impl.SubBig(a, positive(1))
		checkDivision(t, a, b)
		checkDivision(t, less, b)
	}
}
