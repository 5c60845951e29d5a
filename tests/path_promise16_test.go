package tests

import (
	"fmt"
	"slices"
	"strings"
	"testing"

	"loop.example/g00409/impl"
)

// waysComeBack: promise 16, ways come back from their path. It answers whether that is told.
func waysComeBack(t *testing.T, l [][]impl.Pt) bool {
	t.Helper()
	s, ok := impl.PrintPath(l)
	if !ok {
		return false
	}
	back, code, place, ok := impl.ParsePath(s)
	if !ok || code != 0 || place != 0 || !sameWays(back, l) {
		t.Fatalf("ParsePath %q: %v %d %d %v, want %v", s, back, code, place, ok, l)
	}
	again, ok := impl.PrintPath(back)
	wantText(t, "PrintPath of ParsePath", l, again, ok, s)
	return true
}

// pathComesBack: promise 16 from the path on: its ways are good, and where they are printed they come back. It answers whether the path is told.
func pathComesBack(t *testing.T, s string) bool {
	t.Helper()
	l, _, _, ok := impl.ParsePath(s)
	if !ok {
		return false
	}
	if !impl.GoodWays(l) {
		t.Fatalf("ParsePath %q: %v, and they are not good", s, l)
	}
	if _, printed := impl.PrintPath(l); printed != waysComeBack(t, l) {
		t.Fatalf("ParsePath %q: %v, and PrintPath: %v", s, l, printed)
	}
	return true
}

func TestPromise16EdgeWays(t *testing.T) {
	for _, l := range edgeWays() {
		if !waysComeBack(t, l) {
			t.Errorf("PrintPath %v: refused", l)
		}
	}
	for _, c := range pathRows() {
		if !waysComeBack(t, c.ways) || !pathComesBack(t, c.path) || !pathComesBack(t, c.printed) {
			t.Errorf("%s: refused", c.why)
		}
	}
}

// Ways of each number, with each number of points, near and far.
func TestPromise16SomeWays(t *testing.T) {
	r := fixed(223)
	told := map[bool]int{}
	for n := 1; n <= impl.MaxWays; n++ {
		for points := 3; points <= impl.MaxCorners; points++ {
			for _, far := range []int{0, 1, 12, 150, far} {
				l := [][]impl.Pt{}
				for i := range n {
					l = append(l, somePts(r, 3+(points-3+5*i)%(impl.MaxCorners-2), far))
				}
				told[waysComeBack(t, l)]++
				for i := range l {
					l[i] = somePts(r, points, far)
				}
				told[waysComeBack(t, l)]++
			}
		}
	}
	if told[true] < 300 || told[false] < 5 {
		t.Error("told and not:", told)
	}
}

// All points of the grid on an axis and near to the corners come back, as first points and as others.
func TestPromise16EachNumber(t *testing.T) {
	for n := -far; n <= far; n++ {
		for _, l := range [][][]impl.Pt{
			waysOf(wayOf(n, 0, 0, n, n, n)), waysOf(wayOf(0, n, n, 0, -n, n)), waysOf(wayOf(n, -far, far, n, -far, -n), wayOf(n, n, -n, -n, 7, n)),
		} {
			if !waysComeBack(t, l) {
				t.Fatalf("PrintPath %v: refused", l)
			}
		}
	}
}

// Ways that chapters before have: simple ones, ones that are not, and such as go round more than once.
func TestPromise16WaysOfAllKinds(t *testing.T) {
	all := windingWays()
	for _, l := range all {
		if len(l) <= impl.MaxCorners && !waysComeBack(t, waysOf(l)) {
			t.Fatalf("PrintPath %v: refused", l)
		}
	}
	for i := range all {
		waysComeBack(t, all[i:min(i+impl.MaxWays, len(all))])
		waysComeBack(t, waysOf(all[i], all[i]))
	}
}

// Unlike ways have unlike paths: the cut between two ways, each point, and the order count.
func TestPromise16EachWaysHaveAPathOfTheirOwn(t *testing.T) {
	had := map[string][][]impl.Pt{}
	check := func(l [][]impl.Pt) {
		s, ok := impl.PrintPath(l)
		if other, is := had[s]; !ok || is && !sameWays(other, l) {
			t.Fatalf("%q %v is the path of %v and of %v", s, ok, l, other)
		}
		had[s] = cloneWays(l)
	}
	eachWay(3, 2, func(l []impl.Pt) {
		check(waysOf(l))
		check(waysOf(l, l))
		check(waysOf(l, wayOf(0, 1, 1, 0, 1, 1)))
		check(waysOf(wayOf(0, 1, 1, 0, 1, 1), l))
	})
	eachWay(4, 2, func(l []impl.Pt) { check(waysOf(l)) })
	points := longWay(impl.MaxCorners)
	for at := 3; at <= impl.MaxCorners-3; at++ {
		check(waysOf(points[:at], points[at:]))
		check(waysOf(points[at:], points[:at]))
		check(waysOf(points[:at]))
	}
	check(waysOf(points))
}

// Whatever words a path has, what is printed of its ways has the same ways.
func TestPromise16PathsOfAllWords(t *testing.T) {
	r := fixed(224)
	told := map[bool]int{}
	for range 3000 {
		l := someWalk(r, 1+r.IntN(impl.MaxWays), []int{2, 30, 99, far}[r.IntN(4)])
		s := somePath(r, l)
		told[pathComesBack(t, s)]++
		if back, _, _, ok := impl.ParsePath(s); ok && !sameWays(back, l) {
			t.Fatalf("ParsePath %q: %v, want %v", s, back, l)
		}
	}
	for _, c := range pathRows() {
		for _, near := range textsNear(c.path, []byte(" -019MLlHVhvZx")) {
			told[pathComesBack(t, near)]++
		}
	}
	for _, c := range faultRows() {
		if pathComesBack(t, c.path) {
			t.Errorf("%s: ParsePath %q: told", c.why, c.path)
		}
	}
	if told[true] < 5000 || told[false] < 10000 {
		t.Error("told and not:", told)
	}
}

// One way in many words: all of them have the same ways, and the same path is printed.
func TestPromise16ManyPathsOfOneWay(t *testing.T) {
	r := fixed(225)
	for range 300 {
		l := someWalk(r, 1+r.IntN(2), 40)
		want, ok := impl.PrintPath(l)
		if !ok {
			t.Fatalf("PrintPath %v: refused", l)
		}
		for range 20 {
			s := somePath(r, l)
			back, _, _, ok := impl.ParsePath(s)
			if len(s) > impl.MaxPath {
				continue
			}
			wantWays(t, "ParsePath", s, back, ok, l)
			printed, ok := impl.PrintPath(back)
			wantText(t, "PrintPath", s, printed, ok, want)
		}
	}
}

// Ways that are moved and moved back are the ways again, where both are told.
func TestPromise16MovedBack(t *testing.T) {
	r := fixed(226)
	told := map[bool]int{}
	for range 2000 {
		l := someWays(r, 1+r.IntN(impl.MaxWays), []int{5, 80, 500}[r.IntN(3)])
		by := somePt(r, []int{4, 700}[r.IntN(2)])
		s, ok := impl.PrintPath(l)
		moved, is := impl.MovePath(s, by)
		if ok && is {
			back, ok := impl.MovePath(moved, pt(-by.X, -by.Y))
			wantText(t, "MovePath there and back", []any{s, by}, back, ok, s)
			ways, _, _, ok := impl.ParsePath(moved)
			wantWays(t, "ParsePath of MovePath", moved, ways, ok, plainMovedWays(l, by))
		}
		told[ok && is]++
	}
	if told[true] < 500 || told[false] < 100 {
		t.Error("told and not:", told)
	}
}

// Ways one behind the other: their path is both paths, with a blank between, and CountIn counts both.
func TestPromise16PathsBehindEachOther(t *testing.T) {
	r := fixed(227)
	for range 500 {
		many := 1 + r.IntN(impl.MaxWays-1)
		a, b := someWays(r, many, 9), someWays(r, 1+r.IntN(impl.MaxWays-many), 9)
		s, ok := impl.PrintPath(a)
		rest, is := impl.PrintPath(b)
		whole, told := impl.PrintPath(slices.Concat(a, b))
		if len(s)+1+len(rest) > impl.MaxPath {
			continue
		}
		wantText(t, "PrintPath of both", []any{a, b}, whole, ok && is && told, s+" "+rest)
		back, _, _, ok := impl.ParsePath(s + " " + rest)
		wantWays(t, "ParsePath of both", whole, back, ok, slices.Concat(a, b))
		n, m, _ := impl.CountIn(s)
		n2, m2, _ := impl.CountIn(rest)
		all, points, ok := impl.CountIn(whole)
		wantInts(t, "CountIn of both", whole, []int{all, points}, ok, []int{n + n2, m + m2})
	}
}

// Numbers come back from their texts, and texts that are read from their numbers.
func TestPromise16NumbersFromTheirTexts(t *testing.T) {
	for n := -mostNumber - 100; n <= mostNumber+100; n++ {
		s, ok := impl.NumberText(n)
		if !ok {
			continue
		}
		back, ok := impl.ReadNumber(s)
		wantInt(t, "ReadNumber of NumberText", s, back, ok, n)
	}
	read := map[bool]int{}
	for _, n := range []int{0, 5, -5, 10, -99, 100, -1000, mostNumber, -mostNumber} {
		for _, near := range textsNear(fmt.Sprint(n), allBytes()) {
			back, ok := impl.ReadNumber(near)
			if ok {
				s, is := impl.NumberText(back)
				wantText(t, "NumberText of ReadNumber", near, s, is, near)
			}
			read[ok]++
		}
	}
	if read[true] < 200 || read[false] < 5000 {
		t.Error("read and not:", read)
	}
}

// A printed path has words M, L and Z alone, one of them ahead of each point, and numbers as NumberText tells them.
func TestPromise16WordsOfAPrintedPath(t *testing.T) {
	r := fixed(228)
	for range 300 {
		l := someWays(r, 1+r.IntN(impl.MaxWays), 30)
		s, ok := impl.PrintPath(l)
		if !ok {
			t.Fatalf("PrintPath %v: refused", l)
		}
		words := strings.Split(s, " ")
		at := 0
		next := func(want string) {
			if at >= len(words) || words[at] != want {
				t.Fatalf("PrintPath %v: %q has not %q at %d", l, s, want, at)
			}
			at++
		}
		for _, way := range l {
			letter := "M"
			for _, p := range way {
				next(letter)
				for _, n := range []int{p.X, p.Y} {
					text, _ := impl.NumberText(n)
					next(text)
				}
				letter = "L"
			}
			next("Z")
		}
		if at != len(words) {
			t.Fatalf("PrintPath %v: %q has more than %d words", l, s, at)
		}
	}
}
