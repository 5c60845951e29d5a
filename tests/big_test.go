package tests

import (
	"math"
	"math/big"
	"strings"
	"testing"

	"loop.example/g00409/impl"
)

func TestGoodBig(t *testing.T) {
	for _, a := range edgeBigs() {
		if !impl.GoodBig(a) {
			t.Errorf("%v is good", a)
		}
	}
	if !impl.GoodBig(impl.Big{Limbs: []int{}}) {
		t.Error("the empty list is 0")
	}
	for _, a := range wrongBigs() {
		if impl.GoodBig(a) {
			t.Errorf("%v is not good", a)
		}
	}
}

func TestBigOfAndIntOf(t *testing.T) {
	const far = 1 << 62
	ints := []int{
		0, 1, -1, 9, 10, -17, 65535, 65536, 65537, -65535, -65536, 1 << 31, 1 << 32, 1<<48 - 1, 1 << 48,
		far - 1, far, far + 1, -far + 1, -far, -far - 1, math.MaxInt - 1, math.MaxInt, math.MinInt + 1, math.MinInt,
	}
	for _, n := range ints {
		a := impl.BigOf(n)
		wantBig(t, "BigOf", a, true, big.NewInt(int64(n)))
		back, ok := impl.IntOf(a)
		if within := -far <= n && n <= far; ok != within || within && back != n || !within && back != 0 {
			t.Errorf("IntOf BigOf %d: %d %v", n, back, ok)
		}
	}
	for _, a := range []impl.Big{positive(top, top, top, top), negative(0, 0, 0, 0, 1), powerOf(39)} {
		if n, ok := impl.IntOf(a); n != 0 || ok {
			t.Errorf("IntOf %v: %d %v", a, n, ok)
		}
	}
}

func TestCompareBig(t *testing.T) {
	for _, a := range edgeBigs() {
		for _, b := range edgeBigs() {
			if c, ok := impl.CompareBig(a, b); !ok || c != plain(a).Cmp(plain(b)) {
				t.Errorf("CompareBig %v %v: %d %v", a, b, c, ok)
			}
		}
	}
}

func TestSumsAndProducts(t *testing.T) {
	kinds := []struct {
		name string
		own  func(a, b impl.Big) (impl.Big, bool)
		want func(z, a, b *big.Int) *big.Int
	}{
		{"AddBig", impl.AddBig, (*big.Int).Add},
		{"SubBig", impl.SubBig, (*big.Int).Sub},
		{"MulBig", impl.MulBig, (*big.Int).Mul},
		{"HalvesMul", impl.HalvesMul, (*big.Int).Mul},
	}
	pairs := [][2]impl.Big{}
	for _, a := range edgeBigs() {
		for _, b := range edgeBigs() {
			pairs = append(pairs, [2]impl.Big{a, b})
		}
	}
	r := fixed(1)
	for range 3000 {
		pairs = append(pairs, [2]impl.Big{someBig(r, r.IntN(impl.MaxLimbs+1)), someBig(r, r.IntN(impl.MaxLimbs+1))})
	}
	for _, k := range kinds {
		for _, p := range pairs {
			a, ok := k.own(p[0], p[1])
			wantBig(t, k.name, a, ok, k.want(new(big.Int), plain(p[0]), plain(p[1])))
		}
	}
}

func TestLimitMetAndGoneBeyond(t *testing.T) {
	most, one := positive(limbs(impl.MaxLimbs, top)...), positive(1)
	less, _ := impl.SubBig(most, one)
	if a, ok := impl.AddBig(less, one); !ok || !sameBig(a, most) {
		t.Error("the greatest sum:", a, ok)
	}
	if a, ok := impl.AddBig(most, one); ok || !sameBig(a, impl.Big{}) {
		t.Error("one more than the greatest number:", a, ok)
	}
	if a, ok := impl.SubBig(turned(most), one); ok || !sameBig(a, impl.Big{}) {
		t.Error("one less than the least number:", a, ok)
	}
	for _, mul := range []func(a, b impl.Big) (impl.Big, bool){impl.MulBig, impl.HalvesMul} {
		if a, ok := mul(powerOf(19), powerOf(20)); !ok || !sameBig(a, powerOf(39)) {
			t.Error("a product of 40 limbs:", a, ok)
		}
		if a, ok := mul(powerOf(20), powerOf(20)); ok || !sameBig(a, impl.Big{}) {
			t.Error("a product of 41 limbs:", a, ok)
		}
		if a, ok := mul(most, turned(one)); !ok || !sameBig(a, turned(most)) {
			t.Error("the least number as a product:", a, ok)
		}
	}
}

func TestGcdBig(t *testing.T) {
	check := func(a, b impl.Big) {
		t.Helper()
		g, ok := impl.GcdBig(a, b)
		wantBig(t, "GcdBig", g, ok, new(big.Int).GCD(nil, nil, new(big.Int).Abs(plain(a)), new(big.Int).Abs(plain(b))))
	}
	for _, a := range edgeBigs() {
		for _, b := range edgeBigs() {
			check(a, b)
		}
	}
	r := fixed(2)
	for range 500 {
		a, b := someBig(r, r.IntN(21)), someBig(r, r.IntN(21))
		c := someBig(r, r.IntN(20))
		check(a, b)
		ac, _ := impl.MulBig(a, c)
		bc, _ := impl.MulBig(b, c)
		check(ac, bc)
	}
}

func TestGcdOfLongChain(t *testing.T) {
	a, b := positive(1), positive(1)
	for {
		next, ok := impl.AddBig(a, b)
		if !ok {
			break
		}
		a, b = b, next
	}
	if g, ok := impl.GcdBig(a, b); !ok || !sameBig(g, positive(1)) {
		t.Error("two neighbours of Fibonacci's numbers:", g, ok)
	}
}

func TestTexts(t *testing.T) {
	all := edgeBigs()
	r := fixed(3)
	for range 500 {
		all = append(all, someBig(r, r.IntN(impl.MaxLimbs+1)))
	}
	ten := big.NewInt(1)
	for range 190 {
		all = append(all, fromPlain(ten), fromPlain(new(big.Int).Sub(ten, big.NewInt(1))))
		ten = new(big.Int).Mul(ten, big.NewInt(10))
	}
	for _, a := range all {
		s, ok := impl.BigText(a)
		if !ok || s != plain(a).String() {
			t.Fatalf("BigText %v: %q %v", a, s, ok)
		}
		back, ok := impl.ReadBig(s)
		if !ok || !sameBig(back, a) {
			t.Fatalf("ReadBig %q: %v %v", s, back, ok)
		}
	}
}

func TestTextsAtTheLimit(t *testing.T) {
	limit := new(big.Int).Lsh(big.NewInt(1), 16*impl.MaxLimbs)
	most := new(big.Int).Sub(limit, big.NewInt(1))
	for _, sign := range []string{"", "-"} {
		a, ok := impl.ReadBig(sign + most.String())
		if !ok || !sameBig(a, impl.Big{Neg: sign == "-", Limbs: limbs(impl.MaxLimbs, top)}) {
			t.Error("the number farthest from 0:", a, ok)
		}
		for _, s := range []string{limit.String(), most.String() + "0", strings.Repeat("9", 100000)} {
			if a, ok := impl.ReadBig(sign + s); ok || !sameBig(a, impl.Big{}) {
				t.Errorf("a text of %d bytes beyond the limit: %v", len(s), a)
			}
		}
	}
}

func TestTextsThatAreNoNumber(t *testing.T) {
	texts := []string{
		"", "-", "--", "--1", "-0", "00", "01", "-01", "000", "+1", "+", "+0", " 1", "1 ", "1 2", "1\n", "1\x00",
		"a", "1a", "a1", "0x10", "1e3", "1.0", "1_000", "1,0", "1-", "1-1", "/", ":", "1/", "1:", "\u0661", "\uff11", "\xff", "−1",
		"12345678901234567890123456789012345678901234567890x", "0" + strings.Repeat("1", 500),
	}
	for _, s := range texts {
		if a, ok := impl.ReadBig(s); ok || !sameBig(a, impl.Big{}) {
			t.Errorf("ReadBig %q: %v %v", s, a, ok)
		}
	}
	if a := mustRead(t, "0"); !sameBig(a, impl.Big{}) {
		t.Error("0:", a)
	}
}
