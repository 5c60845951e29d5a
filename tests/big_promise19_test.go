package tests

import (
	"slices"
	"testing"

	"loop.example/g00409/impl"
)

// wrongBigs are no numbers, each for one reason.
func wrongBigs() []impl.Big {
	return []impl.Big{
		{Neg: true},
		{Neg: true, Limbs: []int{}},
		positive(0), negative(0), positive(5, 0), positive(0, 0), positive(limbs(impl.MaxLimbs, 0)...),
		positive(-1), positive(-1, 1), positive(1, -1), negative(-1),
		positive(impl.LimbBase), positive(impl.LimbBase, 1), positive(1, impl.LimbBase), positive(1, impl.LimbBase, 1),
		positive(-1 << 63), positive(1<<63 - 1), positive(1, 1<<63-1, 1),
		powerOf(impl.MaxLimbs), positive(limbs(impl.MaxLimbs+1, 1)...), negative(limbs(impl.MaxLimbs+1, top)...), positive(limbs(5000, 1)...),
	}
}

// answer is all that a call told.
type answer struct {
	bigs []impl.Big
	n    int
	s    string
	ok   bool
}

type call struct {
	name string
	of   func(a, b impl.Big) answer
}

func one(a impl.Big, ok bool) answer { return answer{bigs: []impl.Big{a}, ok: ok} }

// callsOfOne look at the first number alone.
func callsOfOne() []call {
	return []call{
		{"GoodBig", func(a, b impl.Big) answer { return answer{ok: impl.GoodBig(a)} }},
		{"IntOf", func(a, b impl.Big) answer {
			n, ok := impl.IntOf(a)
			return answer{n: n, ok: ok}
		}},
		{"BigText", func(a, b impl.Big) answer {
			s, ok := impl.BigText(a)
			return answer{s: s, ok: ok}
		}},
	}
}

func callsOfTwo() []call {
	return []call{
		{"CompareBig", func(a, b impl.Big) answer {
			n, ok := impl.CompareBig(a, b)
			return answer{n: n, ok: ok}
		}},
		{"AddBig", func(a, b impl.Big) answer { return one(impl.AddBig(a, b)) }},
		{"SubBig", func(a, b impl.Big) answer { return one(impl.SubBig(a, b)) }},
		{"MulBig", func(a, b impl.Big) answer { return one(impl.MulBig(a, b)) }},
		{"HalvesMul", func(a, b impl.Big) answer { return one(impl.HalvesMul(a, b)) }},
		{"DivBig", func(a, b impl.Big) answer {
			q, r, ok := impl.DivBig(a, b)
			return answer{bigs: []impl.Big{q, r}, ok: ok}
		}},
		{"GcdBig", func(a, b impl.Big) answer { return one(impl.GcdBig(a, b)) }},
	}
}

func isZero(x answer) bool {
	for _, a := range x.bigs {
		if !sameBig(a, impl.Big{}) {
			return false
		}
	}
	return x.n == 0 && x.s == "" && !x.ok
}

const behind = 3

// watched copies a number into longer memory, and tells what all of that memory holds.
func watched(a impl.Big, mark int) (impl.Big, []int) {
	memory := slices.Concat(a.Limbs, limbs(behind, mark))
	return impl.Big{Neg: a.Neg, Limbs: memory[:len(a.Limbs)]}, memory
}

// scribble overwrites an answer, as far as its memory goes.
func scribble(x answer) {
	for _, a := range x.bigs {
		l := a.Limbs[:cap(a.Limbs)]
		for i := range l {
			l[i] = -7
		}
	}
}

func copied(x answer) answer {
	x.bigs = slices.Clone(x.bigs)
	for i := range x.bigs {
		x.bigs[i].Limbs = slices.Clone(x.bigs[i].Limbs)
	}
	return x
}

func sameAnswer(x, y answer) bool {
	return slices.EqualFunc(x.bigs, y.bigs, sameBig) && x.n == y.n && x.s == y.s && x.ok == y.ok
}

// checkUntouched: promise 19: no argument is written into, also not behind its length, and what lies there changes no answer; nor does an answer share memory with an argument.
func checkUntouched(t *testing.T, c call, a, b impl.Big) answer {
	t.Helper()
	plainly := c.of(a, b)
	wa, ma := watched(a, 9)
	wb, mb := watched(b, -9)
	keptA, keptB := slices.Clone(ma), slices.Clone(mb)
	got := c.of(wa, wb)
	if !sameAnswer(plainly, got) {
		t.Fatalf("%s %v %v: %v, with memory behind the limbs %v", c.name, a, b, plainly, got)
	}
	if !slices.Equal(ma, keptA) || !slices.Equal(mb, keptB) {
		t.Fatalf("%s wrote into %v or %v", c.name, a, b)
	}
	kept := copied(got)
	for i := range ma {
		ma[i] = 11
	}
	for i := range mb {
		mb[i] = 11
	}
	if !sameAnswer(got, kept) {
		t.Fatalf("%s %v %v: the answer changes with its arguments", c.name, a, b)
	}
	copy(ma, keptA)
	copy(mb, keptB)
	scribble(got)
	if !slices.Equal(ma, keptA) || !slices.Equal(mb, keptB) {
		t.Fatalf("%s %v %v: the arguments change with the answer", c.name, a, b)
	}
	return plainly
}

func TestPromise19GoodNumbers(t *testing.T) {
	for _, c := range slices.Concat(callsOfOne(), callsOfTwo()) {
		for _, a := range edgeBigs() {
			for _, b := range edgeBigs() {
				checkUntouched(t, c, a, b)
			}
		}
	}
}

func TestPromise19WrongNumbers(t *testing.T) {
	fine := []impl.Big{{}, positive(7), negative(1, 2, 3), positive(limbs(impl.MaxLimbs, top)...)}
	for _, wrong := range wrongBigs() {
		for _, c := range callsOfOne() {
			if x := checkUntouched(t, c, wrong, impl.Big{}); !isZero(x) {
				t.Errorf("%s %v: %v", c.name, wrong, x)
			}
		}
		for _, c := range callsOfTwo() {
			for _, other := range slices.Concat(fine, wrongBigs()) {
				if x := checkUntouched(t, c, wrong, other); !isZero(x) {
					t.Errorf("%s %v %v: %v", c.name, wrong, other, x)
				}
				if x := checkUntouched(t, c, other, wrong); !isZero(x) {
					t.Errorf("%s %v %v: %v", c.name, other, wrong, x)
				}
			}
		}
	}
}

func TestPromise19DivisionByNought(t *testing.T) {
	for _, a := range edgeBigs() {
		for _, nought := range []impl.Big{{}, {Limbs: []int{}}} {
			q, r, ok := impl.DivBig(a, nought)
			if ok || !sameBig(q, impl.Big{}) || !sameBig(r, impl.Big{}) {
				t.Errorf("%v by 0: %v %v %v", a, q, r, ok)
			}
		}
	}
}

// The quotient and the rest share no memory: what is put behind one does not come up in the other.
func TestPromise19AnswersApart(t *testing.T) {
	for _, a := range edgeBigs() {
		for _, b := range edgeBigs() {
			q, r, _ := impl.DivBig(a, b)
			keptQ, keptR := slices.Clone(q.Limbs), slices.Clone(r.Limbs)
			scribble(answer{bigs: []impl.Big{q}})
			if !slices.Equal(r.Limbs, keptR) {
				t.Fatalf("%v by %v: the rest changes with the quotient", a, b)
			}
			copy(q.Limbs, keptQ)
			scribble(answer{bigs: []impl.Big{r}})
			if !slices.Equal(q.Limbs, keptQ) {
				t.Fatalf("%v by %v: the quotient changes with the rest", a, b)
			}
		}
	}
}

// One number as both arguments: neither may be worked on in its place.
func TestPromise19OneNumberTwice(t *testing.T) {
	for _, c := range callsOfTwo() {
		for _, a := range edgeBigs() {
			w, memory := watched(a, 5)
			kept := slices.Clone(memory)
			got := c.of(w, w)
			if !slices.Equal(memory, kept) {
				t.Fatalf("%s wrote into %v", c.name, a)
			}
			if want := c.of(a, copied(one(a, true)).bigs[0]); !sameAnswer(got, want) {
				t.Fatalf("%s %v with itself: %v, want %v", c.name, a, got, want)
			}
		}
	}
}

// Texts and ints are values, but what is read of them is new at each call.
func TestPromise19ReadAnew(t *testing.T) {
	const text = "-340282366920938463463374607431768211455"
	for _, read := range []func() impl.Big{
		func() impl.Big { return mustRead(t, text) },
		func() impl.Big { return impl.BigOf(-1 << 62) },
	} {
		first := read()
		kept := copied(one(first, true))
		scribble(one(first, true))
		if again := read(); !sameBig(again, kept.bigs[0]) {
			t.Errorf("read again: %v, want %v", again, kept.bigs[0])
		}
	}
}
