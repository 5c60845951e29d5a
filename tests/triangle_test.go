package tests

import (
	"slices"
	"testing"

	"loop.example/g00409/impl"
)

func TestInTriangleWrittenOut(t *testing.T) {
	a, b, c := pt(0, 0), pt(8, 0), pt(0, 4)
	x, y, z := pt(-2, -3), pt(4, 0), pt(1, 6)
	n := wayOf(-far, -far, far, far-1, far, far)
	for _, k := range []struct {
		why     string
		a, b, c impl.Pt
		p       impl.Pt
		want    bool
	}{
		{"within", a, b, c, pt(1, 1), true}, {"within, beside a side", a, b, c, pt(3, 2), true}, {"within", x, y, z, pt(1, 1), true}, {"within, beside a corner", x, y, z, pt(1, 5), true},
		{"at a corner", a, b, c, a, true}, {"at a corner", a, b, c, b, true}, {"at a corner", a, b, c, c, true}, {"at a corner", x, y, z, x, true}, {"at a corner", x, y, z, y, true}, {"at a corner", x, y, z, z, true},
		{"on a side", a, b, c, pt(3, 0), true}, {"on an upright side", a, b, c, pt(0, 3), true}, {"on a side askew", a, b, c, pt(4, 2), true}, {"on a side askew, by an end", a, b, c, pt(6, 1), true}, {"on a side askew", x, y, z, pt(2, 4), true}, {"on another side askew", x, y, z, pt(-1, 0), true},
		{"on a side's line, beyond its end", a, b, c, pt(9, 0), false}, {"ahead of its beginning", a, b, c, pt(-1, 0), false}, {"above an upright side", a, b, c, pt(0, 5), false}, {"below an upright side", a, b, c, pt(0, -1), false}, {"on the line of a side askew, beyond its end", a, b, c, pt(10, -1), false}, {"ahead of its beginning", a, b, c, pt(-2, 5), false}, {"far beyond its end", a, b, c, pt(far, -496), false},
		{"on the line of a side askew, beyond its end", x, y, z, pt(5, -2), false}, {"ahead of its beginning", x, y, z, pt(0, 8), false}, {"beyond a corner", x, y, z, pt(-3, -6), false}, {"beyond a corner", x, y, z, pt(2, 9), false},
		{"outside, in the box", a, b, c, pt(8, 4), false}, {"outside, beside a side", a, b, c, pt(4, 3), false}, {"outside, beside a side", a, b, c, pt(5, 2), false}, {"outside", a, b, c, pt(3, -1), false}, {"outside", a, b, c, pt(-1, 2), false}, {"outside, beyond a corner", a, b, c, pt(-1, -1), false}, {"far outside", a, b, c, pt(far, far), false}, {"far outside", a, b, c, pt(-far, -far), false},
		{"a needle, on its side", n[0], n[1], n[2], pt(0, 0), true}, {"a needle, at its end", n[0], n[1], n[2], pt(far, far-1), true}, {"a needle, beside it", n[0], n[1], n[2], pt(0, 1), false}, {"a needle, beside it", n[0], n[1], n[2], pt(0, -1), false}, {"a needle, beside its end", n[0], n[1], n[2], pt(far, far-2), false},
		{"half of the grid", pt(-far, -far), pt(far, -far), pt(far, far), pt(0, 0), true}, {"half of the grid", pt(-far, -far), pt(far, -far), pt(far, far), pt(far, 0), true}, {"half of the grid, beside it", pt(-far, -far), pt(far, -far), pt(far, far), pt(0, 1), false}, {"half of the grid, far off", pt(-far, -far), pt(far, -far), pt(far, far), pt(-far, far), false},
	} {
		t.Log(k.why)
		wantIn(t, k.a, k.b, k.c, k.p, k.want)
	}
}

// All triangles of a small square, and three points on one line or alike among them, which are refused wherever the point is.
func TestInTriangleOfAll(t *testing.T) {
	many, refused := map[bool]int{}, 0
	eachWay(4, 4, func(l []impl.Pt) {
		in, ok := impl.InTriangle(l[0], l[1], l[2], l[3])
		if plainArea(l[:3]) == 0 {
			refused++
			if in || ok {
				t.Fatalf("InTriangle %v: %v %v, want the zero answer", l, in, ok)
			}
			return
		}
		want := isPlainIn(l[:3], l[3])
		wantFlag(t, "InTriangle", l, in, ok, want)
		many[want]++
	})
	if many[true] == 0 || many[false] == 0 || refused == 0 {
		t.Error("in, not and refused:", many, refused)
	}
}

func TestInTriangleOfSome(t *testing.T) {
	r := fixed(119)
	many := map[bool]int{}
	for range 4000 {
		wide := []int{5, 40, far}[r.IntN(3)]
		l := somePts(r, 4, wide)
		if plainArea(l[:3]) == 0 {
			continue
		}
		want := isPlainIn(l[:3], l[3])
		wantIn(t, l[0], l[1], l[2], l[3], want)
		many[want]++
	}
	if many[true] < 100 || many[false] < 100 {
		t.Error("in and not:", many)
	}
}

func TestTrianglesWrittenOut(t *testing.T) {
	for _, c := range triCases() {
		t.Log(c.why)
		wantEars(t, c.l, c.ears)
		wantTris(t, c.l, c.tris)
		wantIsTriangulation(t, c.l, c.tris, true)
		wantColours(t, c.l, c.colours)
		wantGuards(t, c.l, c.guards)
	}
}

// Of a convex way each corner is an ear; the last corner stays till the end, and has the corners cut off one by one.
func TestTrianglesOfConvexWays(t *testing.T) {
	for n := 3; n <= impl.MaxCorners; n++ {
		l := longWay(n)
		want := []impl.Tri{}
		for i := range n - 3 {
			want = append(want, tri(n-1, i, i+1))
		}
		want = append(want, tri(n-3, n-2, n-1))
		for i := range l {
			for _, way := range [][]impl.Pt{begunAt(l, i), begunAt(backwards(l), i)} {
				wantEars(t, way, allNumbers(n))
				wantTris(t, way, want)
			}
		}
	}
}

// All corners but three turn the other way than the way does, which tells which turn counts.
func TestTrianglesOfFans(t *testing.T) {
	for n := 4; n <= impl.MaxCorners; n++ {
		want := []impl.Tri{}
		for i := 1; i < n-1; i++ {
			want = append(want, tri(0, i, i+1))
		}
		right, ok := impl.TurnAll(fan(n))
		if !ok {
			t.Fatal("TurnAll: refused")
		}
		for _, l := range [][]impl.Pt{fan(n), right} {
			wantEars(t, l, []int{1, n - 1})
			wantTris(t, l, want)
			wantGuards(t, l, []int{0})
			for i := range l {
				ears, ok := impl.EarsOf(begunAt(l, i))
				if !ok || len(ears) != 2 {
					t.Errorf("%v: ears %v", begunAt(l, i), ears)
				}
			}
		}
	}
}

// An ear hangs neither on where the way is begun nor on which way round it goes; only numbers do.
func TestEarsOfTurned(t *testing.T) {
	for _, l := range simpleForTris(fixed(120)) {
		n, ears := len(l), plainEars(l)
		wantEars(t, l, ears)
		turned, _ := impl.TurnAll(l)
		back := []int{}
		for _, ear := range ears {
			back = append(back, (n-ear)%n)
		}
		slices.Sort(back)
		wantEars(t, turned, back)
		for i := range l {
			shifted := []int{}
			for _, ear := range ears {
				shifted = append(shifted, (ear-i+n)%n)
			}
			slices.Sort(shifted)
			wantEars(t, begunAt(l, i), shifted)
		}
	}
}

func TestTrianglesOfEdgeWays(t *testing.T) {
	for _, l := range simpleForTris(fixed(121)) {
		wantTris(t, l, plainTris(l))
		wantColours(t, l, plainColours(l))
		wantGuards(t, l, plainGuards(l))
	}
}

// Told again all is the same, in whichever order the corners are gone through.
func TestTrianglesToldAgain(t *testing.T) {
	for _, l := range [][]impl.Pt{comb(9), teeth(), longWay(impl.MaxCorners), fan(impl.MaxCorners), backwards(comb(9))} {
		for range 60 {
			wantEars(t, l, plainEars(l))
			wantTris(t, l, plainTris(l))
			wantColours(t, l, plainColours(l))
			wantGuards(t, l, plainGuards(l))
		}
	}
}

// The corners keep their numbers, also after all ahead of them are cut off.
func TestTriangulateKeepsNumbers(t *testing.T) {
	// 1 has 3 in its triangle till 2 is cut off; then it comes ahead of 4, which was an ear all the time.
	wantTris(t, wayOf(0, 6, 0, 0, 6, 0, 3, 3, 8, 5, 2, 5), trisOf(5, 0, 1, 1, 2, 3, 5, 1, 3, 3, 4, 5))
	wantTris(t, teeth(), trisOf(1, 2, 3, 0, 1, 3, 0, 3, 4, 4, 5, 6, 0, 4, 6, 0, 6, 7, 7, 8, 9, 0, 7, 9, 0, 9, 10, 0, 10, 11))
	for _, l := range simpleForTris(fixed(122)) {
		tris, ok := impl.Triangulate(l)
		if !ok || len(tris) != len(l)-2 {
			t.Fatalf("Triangulate %v: %v %v", l, tris, ok)
		}
		cut := map[int]int{}
		for i, x := range tris {
			for _, number := range []int{x.A, x.B, x.C} {
				if number < 0 || number >= len(l) || cut[number] > 0 {
					t.Fatalf("%v: %v has a number that is no corner's, or cut off already", l, tris[:i+1])
				}
			}
			cut[x.B]++
		}
		if last := tris[len(tris)-1]; last.A >= last.B || last.B >= last.C {
			t.Fatalf("%v: the last triangle %v is not in order", l, last)
		}
	}
}

func TestIsTriangulationChanged(t *testing.T) {
	r := fixed(123)
	for _, l := range simpleForTris(r) {
		tris := plainTris(l)
		n := len(tris)
		wantIsTriangulation(t, l, tris, true)
		mixed := slices.Clone(tris)
		r.Shuffle(n, func(i, j int) { mixed[i], mixed[j] = mixed[j], mixed[i] })
		wantIsTriangulation(t, l, mixed, true)
		wantIsTriangulation(t, l, append(slices.Clone(tris), tris...), false)
		for i, x := range tris {
			changed := func(to impl.Tri) []impl.Tri {
				other := slices.Clone(tris)
				other[i] = to
				return other
			}
			wantIsTriangulation(t, l, changed(tri(x.B, x.C, x.A)), true)
			wantIsTriangulation(t, l, changed(tri(x.C, x.A, x.B)), true)
			wantIsTriangulation(t, l, changed(tri(x.A, x.C, x.B)), false)
			wantIsTriangulation(t, l, changed(tri(x.C, x.B, x.A)), false)
			wantIsTriangulation(t, l, changed(tri(x.A, x.A, x.B)), false)
			wantIsTriangulation(t, l, slices.Delete(slices.Clone(tris), i, i+1), false)
			wantIsTriangulation(t, l, slices.Insert(slices.Clone(tris), i, x), false)
			// One twice, in the place of another one: as good where both cover as much.
			for _, other := range tris {
				twice := changed(other)
				wantIsTriangulation(t, l, twice, plainArea(cornersOf(l, x)) == plainArea(cornersOf(l, other)))
			}
			for at := range 3 {
				for _, wrong := range wrongNumbers(len(l)) {
					wantIsTriangulation(t, l, changed(withNumber(x, at, wrong)), false)
				}
			}
		}
	}
}

func TestIsTriangulationWrittenOut(t *testing.T) {
	s, bent := square(4), wayOf(0, 0, 4, 0, 1, 1, 0, 4)
	right := wayOf(0, 0, 0, 4, 4, 4, 4, 0)
	pent := wayOf(0, 0, 4, 0, 5, 3, 2, 5, -1, 3)
	for _, c := range []struct {
		why  string
		l    []impl.Pt
		tris []impl.Tri
		want bool
	}{
		{"one cut", s, trisOf(0, 1, 2, 0, 2, 3), true}, {"the other cut", s, trisOf(0, 1, 3, 1, 2, 3), true}, {"begun at other corners", s, trisOf(2, 0, 1, 3, 0, 2), true},
		{"one twice that covers half", s, trisOf(0, 1, 2, 0, 1, 2), true}, {"two that cover one another in part", s, trisOf(0, 1, 2, 3, 0, 1), true},
		{"to the right", s, trisOf(2, 1, 0, 3, 2, 0), false}, {"one of them to the right", s, trisOf(0, 1, 2, 3, 2, 0), false},
		{"a way to the right", right, trisOf(0, 1, 2, 0, 2, 3), true}, {"to the left of a way to the right", right, trisOf(2, 1, 0, 3, 2, 0), false},
		{"none", s, nil, false}, {"none", s, []impl.Tri{}, false}, {"one", s, trisOf(0, 1, 2), false}, {"three", s, trisOf(0, 1, 2, 0, 2, 3, 1, 2, 3), false}, {"all noughts", s, make([]impl.Tri, 2), false},
		{"the right cut", bent, trisOf(0, 1, 2, 0, 2, 3), true}, {"one outside, to the left", bent, trisOf(0, 1, 3, 3, 2, 1), false}, {"one too great", bent, trisOf(0, 1, 3, 0, 1, 2), false}, {"one twice that covers half", bent, trisOf(0, 1, 2, 0, 1, 2), true},
		{"five corners, from each", pent, trisOf(0, 1, 2, 0, 2, 3, 0, 3, 4), true}, {"five corners", pent, trisOf(1, 2, 3, 1, 3, 4, 1, 4, 0), true}, {"two of three", pent, trisOf(0, 1, 2, 0, 2, 3), false}, {"one of them on the wrong corner", pent, trisOf(0, 1, 2, 0, 2, 3, 1, 3, 4), false},
		{"three corners", wayOf(0, 0, 3, 0, 0, 3), trisOf(1, 2, 0), true}, {"three corners, to the right", wayOf(0, 0, 3, 0, 0, 3), trisOf(1, 0, 2), false}, {"three corners, none", wayOf(0, 0, 3, 0, 0, 3), nil, false}, {"three corners, twice", wayOf(0, 0, 3, 0, 0, 3), trisOf(0, 1, 2, 0, 1, 2), false},
		{"three on a line, and one too great", wayOf(0, 0, 2, 0, 4, 0, 0, 4), trisOf(0, 1, 2, 0, 2, 3), false}, {"with a corner on a line", wayOf(0, 0, 2, 0, 4, 0, 0, 4), trisOf(0, 1, 3, 1, 2, 3), true},
		{"fewer that cover as much", wayOf(0, 0, 2, 0, 4, 0, 0, 4), trisOf(0, 2, 3), false}, {"more that cover as much", wayOf(0, 0, 1, 0, 3, 0, 0, 4), trisOf(0, 1, 3, 0, 1, 3, 0, 1, 3), false}, {"as many, one beside the way", wayOf(0, 0, 1, 0, 3, 0, 0, 4), trisOf(0, 2, 3, 0, 1, 2), false},
		{"one to the right takes off what is too much", bent, trisOf(0, 1, 3, 1, 2, 3), false},
	} {
		t.Log(c.why)
		wantIsTriangulation(t, c.l, c.tris, c.want)
		if isPlainTriangulation(c.l, c.tris) != c.want {
			t.Fatalf("%v %v: told by areas it is not %v", c.l, c.tris, c.want)
		}
	}
}

// Each two triangles of the numbers from -1 to 4, of ways of four corners.
func TestIsTriangulationOfAllPairs(t *testing.T) {
	all := []impl.Tri{}
	for a := -1; a <= 4; a++ {
		for b := -1; b <= 4; b++ {
			for c := -1; c <= 4; c++ {
				all = append(all, tri(a, b, c))
			}
		}
	}
	for _, l := range [][]impl.Pt{square(4), wayOf(0, 0, 0, 4, 1, 1, 4, 0), wayOf(0, 0, 2, 0, 4, 0, 0, 4)} {
		many := map[bool]int{}
		for _, x := range all {
			for _, y := range all {
				want := isPlainTriangulation(l, []impl.Tri{x, y})
				wantIsTriangulation(t, l, []impl.Tri{x, y}, want)
				many[want]++
			}
		}
		if many[true] == 0 || many[false] == 0 {
			t.Error("triangulations and not:", l, many)
		}
	}
}

func TestIsTriangulationOfSome(t *testing.T) {
	r := fixed(124)
	many := map[bool]int{}
	for range 20000 {
		l := someSimple(r, 4+r.IntN(2), 3)
		tris := make([]impl.Tri, len(l)-2)
		for i := range tris {
			three := r.Perm(len(l))[:3]
			if plainArea([]impl.Pt{l[three[0]], l[three[1]], l[three[2]]})*plainArea(l) < 0 && r.IntN(20) > 0 {
				slices.Reverse(three)
			}
			tris[i] = tri(three[0], three[1], three[2])
		}
		want := isPlainTriangulation(l, tris)
		wantIsTriangulation(t, l, tris, want)
		many[want]++
	}
	if many[true] < 100 || many[false] < 100 {
		t.Error("triangulations and not:", many)
	}
}

func TestIsTriangulationOfFarMore(t *testing.T) {
	for _, l := range [][]impl.Pt{wayOf(0, 0, 3, 0, 0, 3), square(4), teeth()} {
		for _, n := range []int{impl.MaxCorners, 40, 3000, 100000} {
			many := make([]impl.Tri, n)
			copy(many, plainTris(l))
			wantIsTriangulation(t, l, many, false)
			for i := range many {
				many[i] = plainTris(l)[0]
			}
			wantIsTriangulation(t, l, many, false)
		}
	}
}

func TestSeesOfAll(t *testing.T) {
	ways := windingWays()
	for n := 3; n <= impl.MaxCorners; n++ {
		ways = append(ways, longWay(n), make([]impl.Pt, n))
	}
	for _, l := range ways {
		for _, x := range append(trisOf(0, 1, 2, 2, 1, 0, len(l)-1, 0, 1, 1, len(l)-1, 0), tri(len(l)-3, len(l)-2, len(l)-1)) {
			for guard := range l {
				wantSees(t, l, guard, x, slices.Contains([]int{x.A, x.B, x.C}, guard))
			}
		}
	}
}

func TestSeesWrittenOut(t *testing.T) {
	cross := wayOf(0, 0, 2, 2, 2, 0, 0, 2)
	for _, l := range [][]impl.Pt{square(4), backwards(square(4)), cross, make([]impl.Pt, 4)} {
		wantSees(t, l, 0, tri(0, 1, 2), true)
		wantSees(t, l, 1, tri(0, 1, 2), true)
		wantSees(t, l, 2, tri(0, 1, 2), true)
		wantSees(t, l, 3, tri(0, 1, 2), false)
		wantSees(t, l, 3, tri(3, 1, 2), true)
		wantSees(t, l, 3, tri(1, 3, 2), true)
		wantSees(t, l, 3, tri(2, 1, 3), true)
		wantSees(t, l, 0, tri(3, 2, 1), false)
	}
}
